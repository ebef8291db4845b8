import copy
import unittest

from foldrows.flat import flat, flat_size
from samples import EXAMPLE


def nested_bundles(count, core):
    thing = core
    for number in range(count):
        thing = ("bundle", f"b{number}", ["x", thing, "y"])
    return thing


def nested_tags(count, core):
    thing = core
    for number in range(count):
        thing = ("tag", f"t{number}", thing)
    return thing


def tags_ahead(count):
    return "".join(f"t{number}: " for number in reversed(range(count)))


def bundles_around(count, core):
    ahead = "".join(f"b{number}(x, " for number in reversed(range(count)))
    return ahead + core + ", y)" * count


NUMBERED = [f"p{number}" for number in range(500)]

# Each row: what it shows, the thing, and the text that point 4 asks for.
CASES = [
    ("the example of point 4", EXAMPLE, "row(a, size: [b 2 c], pair())"),
    ("a word of one letter", "a", "a"),
    ("the last letter", "z", "z"),
    ("the first figure", "0", "0"),
    ("the last figure", "9", "9"),
    ("a word of letters and figures", "0ab9z", "0ab9z"),
    ("a long word", "w" * 3000, "w" * 3000),
    ("a word called bundle", "bundle", "bundle"),
    ("a word called run", "run", "run"),
    ("a word called tag", "tag", "tag"),
    ("an empty bundle", ("bundle", "pair", []), "pair()"),
    ("a bundle of one part", ("bundle", "h", ["a"]), "h(a)"),
    ("a bundle of two parts", ("bundle", "h", ["a", "b"]), "h(a, b)"),
    ("a bundle of like parts", ("bundle", "a", ["a", "a", "a"]), "a(a, a, a)"),
    ("an empty run", ("run", []), "[]"),
    ("a run of one word", ("run", ["a"]), "[a]"),
    ("a run of three words", ("run", ["b", "2", "c"]), "[b 2 c]"),
    ("a tag round a word", ("tag", "size", "a"), "size: a"),
    ("a tag round a tag", ("tag", "a", ("tag", "b", "c")), "a: b: c"),
    ("a tag round a bundle", ("tag", "t", ("bundle", "h", ["a", "b"])), "t: h(a, b)"),
    ("a tag round an empty bundle", ("tag", "t", ("bundle", "h", [])), "t: h()"),
    ("a tag round a run", ("tag", "t", ("run", ["a", "b"])), "t: [a b]"),
    ("a tag round an empty run", ("tag", "t", ("run", [])), "t: []"),
    ("a bundle of a bundle", ("bundle", "a", [("bundle", "b", [("bundle", "c", [])])]), "a(b(c()))"),
    ("bundles beside one another",
     ("bundle", "a", [("bundle", "b", ["c"]), ("bundle", "d", ["e", "f"]), "g"]), "a(b(c), d(e, f), g)"),
    ("a bundle of runs", ("bundle", "a", [("run", ["b", "c"]), ("run", []), ("run", ["d"])]), "a([b c], [], [d])"),
    ("a bundle of tags", ("bundle", "a", [("tag", "b", "c"), ("tag", "d", ("tag", "e", "f"))]), "a(b: c, d: e: f)"),
    ("a bundle whose head is a kind's name", ("bundle", "run", ["bundle", "tag"]), "run(bundle, tag)"),
    ("a run of the kinds' names", ("run", ["bundle", "run", "tag"]), "[bundle run tag]"),
    ("a tag whose word is a kind's name", ("tag", "bundle", ("tag", "run", "tag")), "bundle: run: tag"),
    ("nine bundles deep", nested_bundles(9, "core"), bundles_around(9, "core")),
    ("fifty things deep, tags alone", nested_tags(49, "core"), tags_ahead(49) + "core"),
    ("fifty things deep, nine of them bundles",
     nested_tags(40, nested_bundles(9, ("run", ["a", "b"]))), tags_ahead(40) + bundles_around(9, "[a b]")),
    ("fifty things deep, the bundles outermost",
     nested_bundles(9, nested_tags(40, ("run", []))), bundles_around(9, tags_ahead(40) + "[]")),
    ("somewhat deeper than the bounds",
     nested_tags(70, nested_bundles(15, "core")), tags_ahead(70) + bundles_around(15, "core")),
    ("a bundle of five hundred parts", ("bundle", "h", NUMBERED), "h(" + ", ".join(NUMBERED) + ")"),
    ("a run of five hundred words", ("run", NUMBERED), "[" + " ".join(NUMBERED) + "]"),
    ("five hundred bundles in a bundle",
     ("bundle", "h", [("bundle", word, ["a", ("run", [word])]) for word in NUMBERED]),
     "h(" + ", ".join(f"{word}(a, [{word}])" for word in NUMBERED) + ")"),
    ("somewhat more parts than the bound", ("run", NUMBERED + NUMBERED), "[" + " ".join(NUMBERED + NUMBERED) + "]"),
]


class Flat(unittest.TestCase):
    def test_each_thing_is_written_as_point_4_tells(self):
        for name, thing, text in CASES:
            with self.subTest(name):
                self.assertEqual(flat(thing), text)

    def test_flat_size_is_the_number_of_signs(self):
        for name, thing, text in CASES:
            with self.subTest(name):
                self.assertEqual(flat_size(thing), len(text))

    def test_the_answers_are_of_the_kinds_that_the_interface_tells(self):
        for name, thing, text in CASES:
            with self.subTest(name):
                self.assertIs(flat(thing).__class__, str)
                self.assertIs(flat_size(thing).__class__, int)

    def test_the_thing_is_left_as_it_was(self):
        for name, thing, text in CASES:
            with self.subTest(name):
                before = copy.deepcopy(thing)
                flat(thing)
                self.assertEqual(thing, before)
                flat_size(thing)
                self.assertEqual(thing, before)

    def test_the_same_thing_gives_the_same_text_again(self):
        for name, thing, text in CASES:
            with self.subTest(name):
                self.assertEqual(flat(thing), flat(copy.deepcopy(thing)))

    def test_a_thing_that_has_been_changed_since_is_written_anew(self):
        parts = ["a"]
        thing = ("bundle", "h", parts)
        self.assertEqual(flat(thing), "h(a)")
        parts.append("b")
        self.assertEqual(flat(thing), "h(a, b)")
        self.assertEqual(flat_size(thing), 7)


if __name__ == "__main__":
    unittest.main()
