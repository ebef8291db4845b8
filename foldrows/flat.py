"""Things written flat, on one row."""


def flat(thing):
    # A text can be indexed like a tuple, so words are told apart ahead of any look at a kind.
    if isinstance(thing, str):
        return thing
    if thing[0] == "bundle":
        return thing[1] + "(" + ", ".join([flat(part) for part in thing[2]]) + ")"
    if thing[0] == "run":
        return "[" + " ".join(thing[1]) + "]"
    return thing[1] + ": " + flat(thing[2])


def flat_size(thing):
    return len(flat(thing))
