"""Things laid out on rows of a width."""

from foldrows.filling import filled
from foldrows.flat import flat

STEP = 2


def laid(thing, width):
    return rows_of_thing(thing, width, 0, "", "")


def rows_of_thing(thing, width, indent, lead, tail):
    if not isinstance(thing, str) and thing[0] == "tag":
        return rows_of_thing(thing[2], width, indent, lead + thing[1] + ": ", tail)
    blanks = " " * indent
    row = blanks + lead + flat(thing) + tail
    if len(row) <= width or not can_be_broken(thing):
        return [row]
    if thing[0] == "bundle":
        within = rows_of_parts(thing[2], width, indent + STEP)
        return [blanks + lead + thing[1] + "("] + within + [blanks + ")" + tail]
    within = rows_of_words(thing[1], width, indent + STEP)
    return [blanks + lead + "["] + within + [blanks + "]" + tail]


def can_be_broken(thing):
    # The list of a bundle and that of a run both stand last in their tuple.
    return not isinstance(thing, str) and len(thing[-1]) > 0


def rows_of_parts(parts, width, indent):
    rows = []
    for place, part in enumerate(parts, start=1):
        tail = "," if place < len(parts) else ""
        rows.extend(rows_of_thing(part, width, indent, "", tail))
    return rows


def rows_of_words(words, width, indent):
    return [" " * indent + " ".join(row) for row in filled(words, width - indent)]
