"""What names render to, and what they depend on."""

from pagesatonce.names import failures, is_after, is_name
from pagesatonce.segments import join, split

RESULT_MOST = 200

# What a name without a source renders to.
NOTHING = ("text", "?", ())


def dependencies(sources, attempts, name):
    """The list of the dependencies of a name; empty if it has no source."""
    if name not in sources:
        return []
    return told_dependencies(name, sources[name], all_results(sources, attempts))


def result(sources, attempts, name):
    """What a name renders to."""
    return all_results(sources, attempts).get(name, NOTHING)


def join_result(name, text, attempts, found):
    """The result of a name with a text, where found is the list of its dependencies."""
    if failures(text) >= attempts:
        return ("failed", name)
    for _, outcome in found:
        if outcome[0] != "text":
            return outcome
    pieces = _pieces(name, text, found)
    characters = "".join([piece[1] for piece in pieces])
    if len(characters) > RESULT_MOST:
        return ("long", name)
    return ("text", characters, tuple(sorted({link for piece in pieces for link in piece[2]})))


def required(sources, attempts, pages):
    """The rising list of the names that the pages require, these included."""
    results = all_results(sources, attempts)
    told = {name: told_dependencies(name, sources[name], results) for name in sources}
    return all_required(pages, told)


def all_results(sources, attempts):
    """The results of all names with a source, as a dict."""
    results = {}
    # Names depend only on names after them: from the last one on, all dependencies are there.
    for name in sorted(sources, reverse=True):
        text = sources[name]
        results[name] = join_result(name, text, attempts, told_dependencies(name, text, results))
    return results


def told_dependencies(name, text, results):
    """The dependencies of a name with a text, as far as results tell them.

    Results is a dict that has the result of each name after this one that has a source, None if it is not known.
    """
    found = []
    for kind, inner in split(name, text):
        if kind in ("include", "indirect"):
            outcome = results.get(inner, NOTHING)
            found.append((inner, outcome))
            if kind == "indirect" and _leads_on(name, outcome):
                goal = outcome[1]
                found.append((goal, results.get(goal, NOTHING)))
    return found


def all_required(pages, told):
    """The rising list of the names that the pages require; told is a dict of the dependencies of names."""
    reached = {}
    waiting = list(pages)
    while waiting:
        name = waiting.pop()
        if name not in reached:
            reached[name] = True
            waiting.extend([after for after, _ in told.get(name, [])])
    return sorted(reached)


def _leads_on(name, outcome):
    """Whether an indirect inclusion in the text of a name, through one with this outcome, leads to a name."""
    if outcome is None or outcome[0] != "text":
        return False
    return is_name(outcome[1]) and is_after(outcome[1], name)


def _pieces(name, text, found):
    """For each segment the result that has its characters and its links; all that is found is text."""
    pieces = []
    at = 0
    for kind, inner in split(name, text):
        if kind == "text":
            pieces.append(("text", inner, ()))
        elif kind == "link":
            pieces.append(("text", join([(kind, inner)]), (inner,)))
        else:
            piece = found[at][1]
            at += 1
            if kind == "indirect" and _leads_on(name, piece):
                piece = found[at][1]
                at += 1
            elif kind == "indirect":
                # It leads to no name, and this reads like a name without a source.
                piece = NOTHING
            pieces.append(piece)
    return pieces
