"""What the document says of rendering and closing, found in other ways than the program does."""

import itertools
import re

SPECIAL = re.compile(r"<(@?)([a-z]{1,6})>|\[([a-z]{1,6})\]")
NAME = re.compile(r"[a-z]{1,6}")
NOTHING = ("text", "?", ())


class Model:
    """What some sources render to, by recursion from each name."""

    def __init__(self, sources, attempts):
        self.sources = dict(sources)
        self.attempts = attempts
        self.results = {}

    def result(self, name):
        if name not in self.sources:
            return NOTHING
        if name not in self.results:
            self.results[name] = self.rendered(name)
        return self.results[name]

    def goal(self, name, through):
        """The name to which an indirect inclusion leads, or None."""
        kind, *rest = self.result(through)
        if kind == "text" and NAME.fullmatch(rest[0]) and rest[0] > name:
            return rest[0]
        return None

    def dependencies(self, name):
        names = []
        for match in SPECIAL.finditer(self.sources.get(name, "")):
            inner = match.group(2)
            if inner is not None and inner > name:
                names.append(inner)
                if match.group(1) == "@" and self.goal(name, inner) is not None:
                    names.append(self.goal(name, inner))
        return [(after, self.result(after)) for after in names]

    def rendered(self, name):
        text = self.sources[name]
        if text.count("!") >= self.attempts:
            return ("failed", name)
        causes = [found for _, found in self.dependencies(name) if found[0] != "text"]
        if causes:
            return causes[0]
        links = set()

        def put(match):
            sign, inner, link = match.groups()
            if link is not None:
                links.add(link)
                return match.group()
            if inner <= name:
                return match.group()
            if sign == "@":
                inner = self.goal(name, inner)
                if inner is None:
                    return "?"
            links.update(self.result(inner)[2])
            return self.result(inner)[1]

        characters = SPECIAL.sub(put, text)
        if len(characters) > 200:
            return ("long", name)
        return ("text", characters, tuple(sorted(links)))

    def required(self, pages):
        names = set(pages)
        while True:
            more = {after for name in names for after, _ in self.dependencies(name)}
            if more <= names:
                return sorted(names)
            names |= more

    def publish(self, pages):
        """The pages and those behind, as in a version."""
        results = {name: self.result(name) for name in pages}
        kept, behind = closed_by_trying(pages, results)
        return tuple((name, results[name][1]) for name in kept), tuple(behind)


def closed_by_trying(pages, results):
    """The union of all sets of pages that are closed, and the reasons of the other pages."""
    union = set()
    for many in range(len(pages) + 1):
        for some in itertools.combinations(pages, many):
            if all(results[name][0] == "text" and set(results[name][2]) <= set(some) for name in some):
                union |= set(some)
    behind = []
    for name in pages:
        if name not in union:
            reason = results[name]
            if reason[0] == "text":
                reason = ("link", min(set(reason[2]) - union))
            behind.append((name, reason))
    return [name for name in pages if name in union], behind


def some_text(dice, names):
    """A text of random parts that name these names, within the bounds."""
    if dice.random() < 0.4:
        many = [f"<{name}>" for name in dice.choices(names, k=6)]
        return dice.choice(["x" * 60, "".join(many), "".join(many).replace("<", "<@")])
    text = ""
    while dice.random() < 0.8:
        inner = dice.choice(names)
        part = dice.choice([f"<{inner}>", f"<@{inner}>", f"[{inner}]", inner, "!", " x", "<", "[b"])
        if len(text + part) > 60:
            break
        text += part
    return text


def some_sources(dice, names):
    """Random sources of some of these names."""
    sources = {}
    for name in names:
        # Mostly names after this one, so that much is included.
        inner = [other for other in names if other > name or dice.random() < 0.2] or names
        if dice.random() < 0.8:
            sources[name] = dice.choice(inner) if dice.random() < 0.3 else some_text(dice, inner)
    return sources


def some_pages(dice, names):
    """Random requested pages, within the bounds."""
    return tuple(dice.sample(names, dice.randrange(min(len(names), 6) + 1)))
