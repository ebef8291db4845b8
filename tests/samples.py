"""Things that several tests lay out, measure and read, and the choices that point 10 speaks of."""

import itertools

EXAMPLE = ("bundle", "row", ["a", ("tag", "size", ("run", ["b", "2", "c"])), ("bundle", "pair", [])])

LEAVES = [
    "a",
    "bcdef",
    ("bundle", "g", []),
    ("run", []),
    ("run", ["a"]),
    ("run", ["b", "ccc", "d"]),
    ("tag", "t", "word"),
    ("tag", "t", ("run", ["aa", "bb", "c"])),
    ("tag", "t", ("tag", "uu", ("bundle", "h", ["x"]))),
    ("bundle", "long", ["x", "yy"]),
]

RUNS = [("run", [letter * size for letter, size in zip("abcde", sizes)])
        for count in range(5) for sizes in itertools.product((1, 2, 6), repeat=count)]


def small_things():
    """Every thing of some few shapes, few enough choices in each to try them all."""
    yield EXAMPLE
    yield from LEAVES
    yield from RUNS
    for leaf in LEAVES:
        yield ("tag", "lead", leaf)
        yield ("bundle", "h", [leaf])
        yield ("tag", "lead", ("tag", "b", ("bundle", "head", [leaf, "z"])))
        yield ("bundle", "h", ["z", ("bundle", "inner", ["y", leaf]), leaf])
    for parts in itertools.product(LEAVES, repeat=2):
        yield ("bundle", "head", list(parts))
        yield ("bundle", "h", [("tag", "k", ("bundle", "q", list(parts))), "last"])


def nested(core, bundles, tags_in_each):
    """The core within so many bundles, each part of which, the core too, has so many tags ahead of it."""
    thing = tagged(core, tags_in_each)
    for number in range(bundles):
        thing = tagged(("bundle", f"b{number}", ["x", thing, "y"]), tags_in_each)
    return thing


def tagged(thing, count):
    for number in range(count):
        thing = ("tag", f"t{number}", thing)
    return thing


def deep_things():
    """Things as deep as point 1 says and somewhat deeper."""
    yield tagged("core", 49)
    yield tagged(("run", ["a", "b"]), 70)
    yield nested("core", 9, 4)
    yield nested(("run", ["a", "b", "c"]), 9, 4)
    yield nested("core", 9, 0)
    yield tagged(nested(("bundle", "e", []), 9, 0), 40)
    yield nested(tagged("core", 40), 9, 0)
    yield nested(("run", ["aaa", "bbb"]), 15, 5)


def long_things():
    """Things whose lists are as long as point 1 says and somewhat longer."""
    for count in (500, 520):
        words = [f"w{number}" for number in range(count)]
        yield ("run", words)
        yield ("bundle", "h", words)
        yield ("tag", "t", ("bundle", "h", [("bundle", word, [word, ("run", [word, "a"])]) for word in words]))
    yield ("bundle", "h", [("run", [f"w{number}" for number in range(500)]) for _ in range(20)])


def flat_text(thing):
    if isinstance(thing, str):
        return thing
    if thing[0] == "tag":
        return f"{thing[1]}: {flat_text(thing[2])}"
    if thing[0] == "run":
        return f"[{' '.join(thing[1])}]"
    return f"{thing[1]}({', '.join(map(flat_text, thing[2]))})"


def ways_to_break(words):
    """Every way to break the words on rows, one word at least on each row."""
    if not words:
        yield []
    for cut in range(1, len(words) + 1):
        for rest in ways_to_break(words[cut:]):
            yield [words[:cut]] + rest


def choices(thing, indent=0, lead="", tail=""):
    """Every layout by point 10's choices: its rows, and the sizes that the rules of 7 and 9 look at.

    Each size stands in a pair with a flag. The rules ask that the flag be True just where the size is beyond
    the width: for a thing that can be broken, its flat row and whether it is broken; for two words that follow
    one another in a broken run, the row with both and whether a row ends between them.
    """
    blanks = " " * indent
    if not isinstance(thing, str) and thing[0] == "tag":
        yield from choices(thing[2], indent, lead + thing[1] + ": ", tail)
        return
    row = blanks + lead + flat_text(thing) + tail
    if isinstance(thing, str) or not thing[-1]:
        yield [row], []
        return
    yield [row], [(len(row), False)]
    if thing[0] == "run":
        for way in ways_to_break(thing[1]):
            rows = [blanks + "  " + " ".join(words) for words in way]
            sizes = [(len(row), True)]
            sizes += [(len(row), False) for row, words in zip(rows, way) if len(words) > 1]
            sizes += [(len(row) + 1 + len(words[0]), True) for row, words in zip(rows, way[1:])]
            yield [blanks + lead + "["] + rows + [blanks + "]" + tail], sizes
        return
    commas = [","] * (len(thing[2]) - 1) + [""]
    parts = [list(choices(part, indent + 2, "", comma)) for part, comma in zip(thing[2], commas)]
    for chosen in itertools.product(*parts):
        rows = [row for part_rows, _ in chosen for row in part_rows]
        sizes = [pair for _, part_sizes in chosen for pair in part_sizes]
        yield [blanks + lead + thing[1] + "("] + rows + [blanks + ")" + tail], [(len(row), True)] + sizes


def keeps_the_rules(sizes, width):
    return all(flag == (size > width) for size, flag in sizes)


def widest(rows):
    return max(len(row) for row in rows)
