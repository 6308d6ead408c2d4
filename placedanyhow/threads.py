"""The threads of cores, and what they exchange."""

from placedanyhow.usage import threads_of, touched


def threads(core):
    """The list of the tuples (parent, takes, gives, own) of the threads, by their numbers."""
    rows = threads_of(core)
    takes = [taken_cells(s) for _, s in rows]
    found = []
    for t, (parent, s) in enumerate(rows):
        found.append((parent, list(takes[t]), touched(s)[1], own(takes, s)))
    return found


def taken_cells(s):
    """The cells that a statement reads or writes, ascending."""
    found = touched(s)
    return sorted(set(found[0] + found[1]))


def own(takes, s):
    """A statement with a "fork" in the place of each "par", with the takes of its threads."""
    kind = s[0]
    if kind == "par":
        return ("fork", [(t, list(takes[t])) for t, _ in s[1]])
    if kind == "seq":
        return ("seq", [own(takes, part) for part in s[1]])
    if kind == "alt":
        return ("alt", [(guard, c, target, own(takes, part)) for guard, c, target, part in s[1]])
    if kind == "if":
        return ("if", s[1], own(takes, s[2]), own(takes, s[3]))
    if kind == "repeat":
        return ("repeat", s[1], s[2], own(takes, s[3]))
    return s
