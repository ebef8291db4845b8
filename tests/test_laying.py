import copy
import unittest

from foldrows.laying import laid
from samples import EXAMPLE, choices, deep_things, flat_text, keeps_the_rules, long_things, small_things, widest

NARROW_EXAMPLE = ["row(", "  a,", "  size: [", "    b", "    2", "    c", "  ],", "  pair()", ")"]


class LaidByHand(unittest.TestCase):
    def check(self, thing, widths, rows):
        for width in widths:
            with self.subTest(thing=thing, width=width):
                self.assertEqual(laid(thing, width), rows)

    def test_the_example_at_every_width(self):
        self.check(EXAMPLE, range(7), NARROW_EXAMPLE)
        self.check(EXAMPLE, (7, 8), ["row(", "  a,", "  size: [", "    b 2", "    c", "  ],", "  pair()", ")"])
        self.check(EXAMPLE, range(9, 16), ["row(", "  a,", "  size: [", "    b 2 c", "  ],", "  pair()", ")"])
        self.check(EXAMPLE, range(16, 29), ["row(", "  a,", "  size: [b 2 c],", "  pair()", ")"])
        self.check(EXAMPLE, (29, 30, 80, 10 ** 30), ["row(a, size: [b 2 c], pair())"])

    def test_what_cannot_be_broken_is_flat_at_any_width(self):
        for width in (0, 1, 2, 3, 80):
            self.check("longword", [width], ["longword"])
            self.check(("bundle", "pair", []), [width], ["pair()"])
            self.check(("run", []), [width], ["[]"])
            self.check(("tag", "t", "longword"), [width], ["t: longword"])
            self.check(("tag", "t", ("bundle", "pair", [])), [width], ["t: pair()"])
            self.check(("tag", "t", ("tag", "u", ("run", []))), [width], ["t: u: []"])

    def test_what_cannot_be_broken_is_flat_within_a_broken_bundle(self):
        parts = ["longword", ("bundle", "pair", []), ("run", []), ("tag", "t", ("run", [])), "last"]
        self.check(("bundle", "h", parts), (0, 1, 2, 5),
                   ["h(", "  longword,", "  pair(),", "  [],", "  t: [],", "  last", ")"])

    def test_a_bundle_just_at_the_width_and_one_beyond(self):
        self.check(("bundle", "h", ["a", "b"]), (7, 8), ["h(a, b)"])
        self.check(("bundle", "h", ["a", "b"]), (6, 5, 0), ["h(", "  a,", "  b", ")"])
        self.check(("bundle", "h", ["a"]), (4, 5), ["h(a)"])
        self.check(("bundle", "h", ["a"]), (3, 2, 1, 0), ["h(", "  a", ")"])

    def test_a_run_just_at_the_width_and_one_beyond(self):
        self.check(("run", ["ab", "cd"]), (7, 8), ["[ab cd]"])
        self.check(("run", ["ab", "cd"]), (6, 5, 4, 0), ["[", "  ab", "  cd", "]"])
        self.check(("run", ["a"]), (3, 4), ["[a]"])
        self.check(("run", ["a"]), (2, 1, 0), ["[", "  a", "]"])

    def test_a_broken_run_is_filled_from_the_first_word_on(self):
        words = ("run", ["a", "b", "c", "d", "e"])
        self.check(words, (11,), ["[a b c d e]"])
        self.check(words, (10, 9), ["[", "  a b c d", "  e", "]"])
        self.check(words, (8, 7), ["[", "  a b c", "  d e", "]"])
        self.check(words, (6, 5), ["[", "  a b", "  c d", "  e", "]"])
        self.check(words, (4, 3, 2, 1, 0), ["[", "  a", "  b", "  c", "  d", "  e", "]"])

    def test_a_run_on_one_row_of_its_own_behind_a_lead(self):
        self.check(("tag", "lead", ("run", ["ab", "cd"])), (13,), ["lead: [ab cd]"])
        self.check(("tag", "lead", ("run", ["ab", "cd"])), (12, 8, 7), ["lead: [", "  ab cd", "]"])
        self.check(("tag", "lead", ("run", ["ab", "cd"])), (6, 0), ["lead: [", "  ab", "  cd", "]"])

    def test_a_word_of_a_run_that_is_longer_than_the_width(self):
        self.check(("run", ["a", "longword", "b", "c"]), (6, 5), ["[", "  a", "  longword", "  b c", "]"])
        self.check(("run", ["longword", "a"]), (5, 0), ["[", "  longword", "  a", "]"])

    def test_a_comma_may_make_the_row_too_long(self):
        bundles = ("bundle", "h", [("bundle", "a", ["b"]), ("bundle", "a", ["b"])])
        self.check(bundles, (7, 8), ["h(", "  a(b),", "  a(b)", ")"])
        self.check(bundles, (6,), ["h(", "  a(", "    b", "  ),", "  a(b)", ")"])
        self.check(bundles, (5, 0), ["h(", "  a(", "    b", "  ),", "  a(", "    b", "  )", ")"])

    def test_a_comma_may_make_the_row_of_a_run_too_long(self):
        runs = ("bundle", "h", [("run", ["a", "b"]), ("run", ["a", "b"])])
        self.check(runs, (8, 9), ["h(", "  [a b],", "  [a b]", ")"])
        self.check(runs, (7,), ["h(", "  [", "    a b", "  ],", "  [a b]", ")"])

    def test_a_comma_behind_a_broken_run_takes_nothing_from_its_words(self):
        self.check(("bundle", "h", [("run", ["a", "b", "cc"]), "z"]), (7,),
                   ["h(", "  [", "    a b", "    cc", "  ],", "  z", ")"])

    def test_a_lead_may_make_the_row_too_long(self):
        self.check(("tag", "t", ("bundle", "h", ["a"])), (7, 8), ["t: h(a)"])
        self.check(("tag", "t", ("bundle", "h", ["a"])), (6, 0), ["t: h(", "  a", ")"])
        self.check(("tag", "t", ("run", ["a"])), (6, 7), ["t: [a]"])
        self.check(("tag", "t", ("run", ["a"])), (5, 0), ["t: [", "  a", "]"])

    def test_an_indent_may_make_the_row_too_long(self):
        thing = ("bundle", "head", [("bundle", "h", ["a", "b"])])
        self.check(thing, (13,), ["head(h(a, b))"])
        self.check(thing, (12, 9), ["head(", "  h(a, b)", ")"])
        self.check(thing, (8, 0), ["head(", "  h(", "    a,", "    b", "  )", ")"])

    def test_tags_within_tags(self):
        thing = ("tag", "a", ("tag", "b", ("tag", "c", ("bundle", "h", ["x", "y"]))))
        self.check(thing, (16, 17), ["a: b: c: h(x, y)"])
        self.check(thing, (15, 0), ["a: b: c: h(", "  x,", "  y", ")"])

    def test_tags_add_to_the_lead_and_not_to_the_indent(self):
        thing = ("bundle", "h", [("tag", "a", ("tag", "b", ("bundle", "g", [("tag", "c", ("run", ["x"]))]))), "z"])
        self.check(thing, (0, 1, 9), ["h(", "  a: b: g(", "    c: [", "      x", "    ]", "  ),", "  z", ")"])
        self.check(thing, (10, 17), ["h(", "  a: b: g(", "    c: [x]", "  ),", "  z", ")"])
        self.check(thing, (18, 20), ["h(", "  a: b: g(c: [x]),", "  z", ")"])
        self.check(thing, (21, 80), ["h(a: b: g(c: [x]), z)"])

    def test_a_lead_does_not_go_on_to_the_parts(self):
        thing = ("tag", "lead", ("bundle", "h", [("bundle", "a", ["b"]), "c"]))
        self.check(thing, (8, 7), ["lead: h(", "  a(b),", "  c", ")"])

    def test_the_first_row_of_a_broken_thing_may_be_beyond_the_width(self):
        self.check(("bundle", "longhead", ["a"]), (3,), ["longhead(", "  a", ")"])
        self.check(("tag", "longtag", ("run", ["a"])), (3,), ["longtag: [", "  a", "]"])

    def test_bundles_within_bundles(self):
        thing = ("bundle", "a", [("bundle", "b", [("bundle", "c", ["d"]), "e"]), ("bundle", "f", ["g"])])
        self.check(thing, (19,), ["a(b(c(d), e), f(g))"])
        self.check(thing, (18, 13), ["a(", "  b(c(d), e),", "  f(g)", ")"])
        self.check(thing, (12, 9), ["a(", "  b(", "    c(d),", "    e", "  ),", "  f(g)", ")"])
        self.check(thing, (8, 6), ["a(", "  b(", "    c(", "      d", "    ),", "    e", "  ),", "  f(g)", ")"])
        self.check(thing, (5, 0), ["a(", "  b(", "    c(", "      d", "    ),", "    e", "  ),",
                                   "  f(", "    g", "  )", ")"])

    def test_words_that_are_called_like_kinds(self):
        self.check(("bundle", "run", ["bundle", "tag"]), (0,), ["run(", "  bundle,", "  tag", ")"])
        self.check(("run", ["bundle", "run", "tag"]), (0,), ["[", "  bundle", "  run", "  tag", "]"])
        for word in ("bundle", "run", "tag"):
            self.check(word, (0, 80), [word])

    def test_a_width_somewhat_below_nought(self):
        self.check(EXAMPLE, (-1, -5), NARROW_EXAMPLE)


class LaidAtEveryWidth(unittest.TestCase):
    """Each small thing at each width, beside every choice that point 10 allows."""

    def test_the_rows_are_those_of_the_rules(self):
        for thing in small_things():
            layouts = list(choices(thing))
            for width in range(len(flat_text(thing)) + 2):
                ruled = [rows for rows, sizes in layouts if keeps_the_rules(sizes, width)]
                self.assertEqual([laid(thing, width)], ruled, (thing, width))

    def test_no_choice_is_better(self):
        for thing in small_things():
            layouts = [(widest(rows), len(rows)) for rows, _ in choices(thing)]
            for width in range(len(flat_text(thing)) + 2):
                within = [count for size, count in layouts if size <= width]
                if within:
                    rows = laid(thing, width)
                    self.assertLessEqual(widest(rows), width, (thing, width))
                    self.assertEqual(len(rows), min(within), (thing, width))

    def test_the_flat_text_is_the_one_row_from_its_own_size_on(self):
        for thing in small_things():
            text = flat_text(thing)
            for width in (len(text), len(text) + 1, 2 * len(text)):
                self.assertEqual(laid(thing, width), [text])


class LaidDeepAndLong(unittest.TestCase):
    def test_nine_bundles_deep(self):
        thing, ahead, behind = "core", [], []
        for number in range(9):
            thing = ("bundle", f"b{number}", [thing])
            blanks = "  " * (8 - number)
            ahead = [f"{blanks}b{number}("] + ahead
            behind = behind + [blanks + ")"]
        rows = ahead + ["  " * 9 + "core"] + behind
        self.assertEqual(laid(thing, 0), rows)
        self.assertEqual(laid(thing, len(flat_text(thing))), [flat_text(thing)])

    def test_fifty_things_deep(self):
        thing, lead = ("run", ["a", "b"]), ""
        for number in range(49):
            thing = ("tag", f"t{number}", thing)
            lead = f"t{number}: " + lead
        self.assertEqual(laid(thing, 0), [lead + "[", "  a", "  b", "]"])
        self.assertEqual(laid(thing, len(lead) + 4), [lead + "[", "  a b", "]"])
        self.assertEqual(laid(thing, len(lead) + 5), [lead + "[a b]"])

    def test_deep_things_have_all_their_words_and_marks_in_order(self):
        for thing in deep_things():
            text = flat_text(thing)
            for width in (0, 20, 40, 80, len(text) - 1, len(text)):
                self.assertEqual("".join(laid(thing, width)).replace(" ", ""), text.replace(" ", ""))

    def test_five_hundred_words_and_parts_and_somewhat_more(self):
        for count in (500, 520):
            words = [f"{number:03}" for number in range(count)]
            rows = ["  " + " ".join(words[start:start + 10]) for start in range(0, count, 10)]
            self.assertEqual(laid(("run", words), 41), ["["] + rows + ["]"])
            commas = ["  " + word + "," for word in words[:-1]]
            self.assertEqual(laid(("bundle", "h", words), 41), ["h("] + commas + ["  " + words[-1], ")"])

    def test_long_things_have_all_their_words_and_marks_in_order(self):
        for thing in long_things():
            text = flat_text(thing)
            for width in (0, 30, 80, len(text) - 1, len(text)):
                self.assertEqual("".join(laid(thing, width)).replace(" ", ""), text.replace(" ", ""))


class LaidLeavesThingsAlone(unittest.TestCase):
    def test_the_thing_is_left_as_it_was(self):
        for things in (small_things(), deep_things(), long_things()):
            for thing in things:
                before = copy.deepcopy(thing)
                for width in (0, 8, 20, 10 ** 6):
                    laid(thing, width)
                    self.assertEqual(thing, before)

    def test_the_rows_are_a_list_of_texts_that_no_later_call_shares(self):
        for thing in (EXAMPLE, "a", ("run", ["a"])):
            for width in (0, 8, 80):
                rows = laid(thing, width)
                self.assertIs(rows.__class__, list)
                for row in rows:
                    self.assertIs(row.__class__, str)
                before = list(rows)
                rows.append("more")
                self.assertEqual(laid(thing, width), before)

    def test_a_thing_that_has_been_changed_since_is_laid_out_anew(self):
        parts = ["a"]
        thing = ("bundle", "h", parts)
        self.assertEqual(laid(thing, 0), ["h(", "  a", ")"])
        parts.append("b")
        self.assertEqual(laid(thing, 0), ["h(", "  a,", "  b", ")"])


if __name__ == "__main__":
    unittest.main()
