"""The publisher: it renders what has to be rendered, and publishes all pages at once."""

from pagesatonce.cache import Cache
from pagesatonce.closing import published_parts
from pagesatonce.edits import all_edited
from pagesatonce.errors import OutOfRange
from pagesatonce.jobs import BACKING_OFF, QUEUED, RUNNING, Job
from pagesatonce.options import check_options, delay, duration
from pagesatonce.rendering import join_result
from pagesatonce.snapshots import Snapshot
from pagesatonce.timers import Timers

TICKS_MOST = 10000
TIME_MOST = 9999999

# The keys of the timers; that of a job has its name, too.
_PAUSE = ("pause",)
_WAIT = ("wait",)
_JOB = "job"


def time_after(clock, ticks):
    """The time so many ticks later; raises OutOfRange if so many may not pass."""
    if not 0 <= ticks <= TICKS_MOST or clock + ticks > TIME_MOST:
        raise OutOfRange("ticks")
    return clock + ticks


class Publisher:
    """Sources and requested pages that are edited, and the version that was published last."""

    def __init__(self, options, clock=0):
        check_options(options)
        self._options = tuple(options)
        self._together, _, self._attempts, _, _, self._pause, self._wait = options
        self._clock = clock
        self._count = 0
        self._sources = {}
        self._pages = ()
        # Sources, pages, number of edits and time when it was frozen; None while it is not frozen.
        self._frozen = None
        self._dirty_since = None
        self._last_edit = clock
        self._timers = Timers()
        self._jobs = {}
        self._cache = Cache()
        self._version = (0, 0, clock, (), ())
        self._published = 0
        self._attempts_made = 0

    def edit(self, edit):
        """Makes an edit; whether it is one, since what changes nothing is none."""
        if self._change([edit]) == 0:
            return False
        self._last_edit = self._clock
        if self._frozen is None:
            self._set_timers()
        elif self._dirty_since is None:
            self._dirty_since = self._clock
        self._progress()
        return True

    def advance(self, ticks):
        """Lets time pass; the clock."""
        last = time_after(self._clock, ticks)
        while self.turn(last):
            pass
        self._clock = last
        return last

    def turn(self, last):
        """Fires the first timer, with the clock at its time, if it is due by the time last; whether one fired."""
        first = self._timers.first()
        if first is None or first[0] > last:
            return False
        self._clock, key = first
        self._timers.remove(key)
        self._fire(key)
        return True

    def resume(self, edits, version):
        """For a publisher that has done nothing yet: makes edits without timers, and takes a version."""
        self._change(edits)
        self._version = version
        if version[1] < self._count:
            self._set_timers()

    def clock(self):
        """The present time."""
        return self._clock

    def count(self):
        """The number of edits."""
        return self._count

    def sources(self):
        """The rising tuple of the present sources."""
        return tuple([(name, self._sources[name]) for name in sorted(self._sources)])

    def pages(self):
        """The tuple of the presently requested pages."""
        return self._pages

    def version(self):
        """The version that was published last."""
        return self._version

    def published(self):
        """How often it has published."""
        return self._published

    def state(self):
        """What it is doing: frozen, pausing, rendering or idle."""
        if self._frozen is not None:
            return "frozen"
        if self._is_pausing():
            return "pausing"
        if self._dirty_since is not None:
            return "rendering"
        return "idle"

    def dirty_since(self):
        """The time since which it is dirty, or None."""
        return self._dirty_since

    def next_due(self):
        """The time at which the first timer is due, or None."""
        first = self._timers.first()
        if first is None:
            return None
        return first[0]

    def jobs(self):
        """The list of the jobs (name, state, attempt, due) by rising names."""
        rising = [self._jobs[name] for name in sorted(self._jobs)]
        return [(job.name, job.phase, job.attempt, self._timers.due((_JOB, job.name))) for job in rising]

    def renderings(self, name):
        """The list of the renderings of a name in its cache, the one that was added last first."""
        return self._cache.renderings(name)

    def required(self):
        """The rising list of the required names of what it renders."""
        return self._snapshot().required()

    def attempts_made(self):
        """How many attempts have been started."""
        return self._attempts_made

    def _change(self, edits):
        """Makes edits without any timers; how many of them changed anything."""
        self._sources, self._pages, many = all_edited(self._sources, self._pages, edits)
        self._count += many
        return many

    def _set_timers(self):
        """Sets the timers of an edit that is made now, while it is not frozen."""
        if self._dirty_since is None:
            self._dirty_since = self._clock
            self._timers.put(_WAIT, self._clock + self._wait)
        self._timers.put(_PAUSE, self._clock + self._pause)

    def _is_pausing(self):
        return self._timers.due(_PAUSE) is not None

    def _present(self):
        return (self._sources, self._pages, self._count, self._clock)

    def _rendered(self):
        """The sources, pages, number of edits and time of what it renders."""
        if self._frozen is None:
            return self._present()
        return self._frozen

    def _snapshot(self):
        sources, pages, _, _ = self._rendered()
        return Snapshot(sources, pages, self._attempts, self._cache)

    def _fire(self, key):
        if key == _WAIT:
            self._freeze()
            return
        if key != _PAUSE:
            self._fire_for_job(self._jobs[key[1]])
        self._progress()

    def _fire_for_job(self, job):
        if job.phase == BACKING_OFF:
            job.phase = QUEUED
        elif job.is_failing() and job.attempt < self._attempts:
            job.phase = BACKING_OFF
            self._set_job_timer(job, delay(self._options, job.attempt))
        else:
            del self._jobs[job.name]
            outcome = join_result(job.name, job.text, self._attempts, list(job.found))
            self._cache.add((job.name, job.text, job.found, outcome))

    def _set_job_timer(self, job, ticks):
        self._timers.put((_JOB, job.name), self._clock + ticks)

    def _freeze(self):
        self._frozen = self._present()
        self._dirty_since = None
        self._timers.remove(_PAUSE)
        self._progress()

    def _progress(self):
        rendered = self._rendered()
        self._cache.keep(list(self._sources) + list(rendered[0]))
        snapshot = self._snapshot()
        self._call_off(rendered[0], snapshot)
        if self._is_pausing():
            return
        self._start_attempts(rendered[0], snapshot)
        if snapshot.is_ready() and (self._frozen is not None or self._dirty_since is not None):
            self._publish(snapshot)

    def _call_off(self, sources, snapshot):
        """Removes the jobs that are not valid any more."""
        jobs = list(self._jobs.values())
        for job in jobs:
            if not job.is_valid(sources.get(job.name), snapshot):
                del self._jobs[job.name]
                self._timers.remove((_JOB, job.name))

    def _start_attempts(self, sources, snapshot):
        running = len([job for job in self._jobs.values() if job.phase == RUNNING])
        for name in snapshot.renderable():
            if running >= self._together:
                return
            if name not in self._jobs:
                self._jobs[name] = Job(name, sources[name], snapshot.told(name))
            job = self._jobs[name]
            if job.phase == QUEUED:
                running += 1
                job.start_attempt()
                self._attempts_made += 1
                self._set_job_timer(job, duration(self._options, len(job.found)))

    def _publish(self, snapshot):
        _, names, count, time = self._rendered()
        parts = published_parts(names, {name: snapshot.known(name) for name in names})
        number = self._version[0]
        if parts != self._version[3:]:
            number += 1
        self._version = (number, count, time, *parts)
        self._published += 1
        if self._frozen is None:
            self._dirty_since = None
            self._timers.remove(_WAIT)
        else:
            self._release()

    def _release(self):
        self._frozen = None
        if self._dirty_since is None:
            return
        waited = self._clock - self._dirty_since
        if waited >= self._wait:
            self._freeze()
            return
        self._timers.put(_WAIT, self._dirty_since + self._wait)
        if self._clock - self._last_edit < self._pause:
            self._timers.put(_PAUSE, self._last_edit + self._pause)
        self._progress()
