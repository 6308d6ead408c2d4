"""The parts of core statements."""


def parts_of(s):
    """The list of the statements that stand directly inside a core statement, in order."""
    kind = s[0]
    if kind == "seq":
        return list(s[1])
    if kind == "par":
        return [row[1] for row in s[1]]
    if kind == "alt":
        return [row[3] for row in s[1]]
    if kind == "if":
        return [s[2], s[3]]
    if kind == "repeat":
        return [s[3]]
    return []
