import copy
import itertools
import re
import string
import unittest

from foldrows.errors import FoldError, NoThing
from foldrows.laying import laid
from foldrows.reading import is_word, laid_anew, read
from samples import EXAMPLE, deep_things, flat_text, long_things, small_things

SIGNS_OF_WORDS = string.ascii_lowercase + string.digits
MARKS = "()[],:"

# Signs that no thing has, those that Python itself takes for blanks, letters or figures among them.
OTHER_SIGNS = [sign for sign in map(chr, range(256)) if sign not in SIGNS_OF_WORDS + MARKS + " "] + list(
    "\u0131\u017f\u0430\u03b1\u0663\u0967\u2160\u2003\u2028\u2029\u3000\uff41\uff11\uff08\uff09\uff3b\uff3d\uff0c\uff1a"
    "\u200b\ufeff\u0301\U0001d41a\U0001d7ce"
)

# Each row: rows, and the thing that they write.
READ_BY_HAND = [
    (["row(a, size: [b 2 c], pair())"], EXAMPLE),
    (["a"], "a"),
    (["0"], "0"),
    (["az09"], "az09"),
    (["bundle"], "bundle"),
    (["a()"], ("bundle", "a", [])),
    (["a(b)"], ("bundle", "a", ["b"])),
    (["a(b,c)"], ("bundle", "a", ["b", "c"])),
    (["a(b(),c(d))"], ("bundle", "a", [("bundle", "b", []), ("bundle", "c", ["d"])])),
    (["a(b(c(d)))"], ("bundle", "a", [("bundle", "b", [("bundle", "c", ["d"])])])),
    (["a([],[b],c)"], ("bundle", "a", [("run", []), ("run", ["b"]), "c"])),
    (["a(b:c,d:[e])"], ("bundle", "a", [("tag", "b", "c"), ("tag", "d", ("run", ["e"]))])),
    (["a(b:c(d),e)"], ("bundle", "a", [("tag", "b", ("bundle", "c", ["d"])), "e"])),
    (["[]"], ("run", [])),
    (["[a]"], ("run", ["a"])),
    (["[a b]"], ("run", ["a", "b"])),
    (["[ab]"], ("run", ["ab"])),
    (["[bundle run tag]"], ("run", ["bundle", "run", "tag"])),
    (["a:b"], ("tag", "a", "b")),
    (["a:b:c"], ("tag", "a", ("tag", "b", "c"))),
    (["a:[]"], ("tag", "a", ("run", []))),
    (["a:b()"], ("tag", "a", ("bundle", "b", []))),
    (["a:b:c(d:e)"], ("tag", "a", ("tag", "b", ("bundle", "c", [("tag", "d", "e")])))),
    (["  a  "], "a"),
    (["", "a", ""], "a"),
    ([" ", "", "  a", "", " "], "a"),
    (["  row  (  a  ,  size  :  [  b  2  c  ]  ,  pair  (  )  )  "], EXAMPLE),
    (["row(a,size:[b 2 c],pair())"], EXAMPLE),
    (["row", "(", "a", ",", "size", ":", "[", "b", "2", "c", "]", ",", "pair", "(", ")", ")"], EXAMPLE),
    (["", "row(a,", " ", "size", ":[b", "", "2 c", "],pair(", "))", ""], EXAMPLE),
    (["a ()"], ("bundle", "a", [])),
    (["a", "()"], ("bundle", "a", [])),
    (["a :b"], ("tag", "a", "b")),
    (["a", ":", "b"], ("tag", "a", "b")),
    (["[a", "b]"], ("run", ["a", "b"])),
    (["[", "a", "", "b", "]"], ("run", ["a", "b"])),
    (["[ab", "c]"], ("run", ["ab", "c"])),
]

LISTED = ["a b", "a()b", "(a)", "a(b,)", "a(,b)", "a(b c)", "[a, b]", "[a()]", "[[a]]", "a:", "a: : b", "[a]: b",
          "a(b", "a)"]

MORE_REFUSED = [
    "(", ")", "[", "]", ",", ":", "()", "[", "[a", "a]", "a(", "a((", "a(()", "a(()))", "a())", "a()()", "a(b)(c)",
    "a()[]", "[]a", "a[]", "[][]", "[] []", "[](a)", "[]()", "a(b))", "a(b]", "[a)", "a(b,,c)", "a(,)", "a(b,c,)",
    "a,b", "a,", ",a", "a(b),c", "a(b:)", "a(b:,c)", "a(:b)", ":a", ": a", "a::b", "a:b c", "a: b:", "a():b", "[]:a",
    "a(b[c])", "a([b]c)", "a(b(c)d)", "a(b: c d)", "[a: b]", "[a:]", "[:]", "[,]", "[a,]", "[()]", "[a(b)]", "[[]]",
    "a(b;c)", "A", "aB", "a_b", "a-b", "a.b", "a(B)", "[A]", "A: b", "'a'", "a{}",
]


def tokens_of(thing):
    return re.findall(r"[a-z0-9]+|[^a-z0-9 ]", flat_text(thing))


def without_needless_blanks(tokens):
    text = ""
    for token in tokens:
        if text and text[-1] in SIGNS_OF_WORDS and token[0] in SIGNS_OF_WORDS:
            text += " "
        text += token
    return text


def all_things(count):
    """Every thing of so many words and marks, each word an a."""
    if count == 1:
        yield "a"
    if count >= 2:
        yield ("run", ["a"] * (count - 2))
    if count >= 3:
        for thing in all_things(count - 2):
            yield ("tag", "a", thing)
    if count == 3:
        yield ("bundle", "a", [])
    for parts in all_part_lists(count - 3):
        yield ("bundle", "a", parts)


def all_part_lists(count):
    """Every list of one thing or more that has so many words and marks, the commas counted."""
    for size in range(1, count + 1):
        for thing in all_things(size):
            if size == count:
                yield [thing]
            for rest in all_part_lists(count - size - 1):
                yield [thing] + rest


class Refusals(unittest.TestCase):
    def refused(self, rows):
        for answer in (read, lambda given: laid_anew(given, 0), lambda given: laid_anew(given, 80)):
            try:
                thing = answer(rows)
            except FoldError as error:
                self.assertIs(error.__class__, NoThing, rows)
            else:
                self.fail(f"{rows!r} gave {thing!r}")


class IsWord(unittest.TestCase):
    def test_words(self):
        for text in ("a", "z", "0", "9", "abc", "007", "a1b2", "9z", "bundle", "w" * 3000, SIGNS_OF_WORDS):
            self.assertIs(is_word(text), True, text)
        for sign in SIGNS_OF_WORDS:
            self.assertIs(is_word(sign), True, sign)

    def test_an_empty_text_is_no_word(self):
        self.assertIs(is_word(""), False)

    def test_other_signs_are_in_no_word(self):
        for sign in OTHER_SIGNS + list(MARKS) + [" "]:
            for text in (sign, "a" + sign, sign + "a", "a" + sign + "b", "ab0" + sign * 2, "0" + sign):
                self.assertIs(is_word(text), False, repr(text))

    def test_things_written_flat_are_no_words(self):
        for text in ("a()", "[a]", "a: b", "a b", " a", "a ", "a,", "A", "aB"):
            self.assertIs(is_word(text), False, text)


class Read(unittest.TestCase):
    def test_by_hand(self):
        for rows, thing in READ_BY_HAND:
            with self.subTest(rows=rows):
                self.assertEqual(read(rows), thing)

    def test_the_rows_of_laid_at_every_width(self):
        for thing in small_things():
            for width in range(len(flat_text(thing)) + 2):
                self.assertEqual(read(laid(thing, width)), thing)

    def test_the_flat_text(self):
        for thing in small_things():
            self.assertEqual(read([flat_text(thing)]), thing)

    def test_the_same_words_and_marks_strewn_otherwise(self):
        for thing in small_things():
            tokens = tokens_of(thing)
            half = len(tokens) // 2
            for rows in (
                tokens,
                ["   " + token + " " for token in tokens],
                [row for token in tokens for row in ("", token, "  ")],
                [" ".join(tokens)],
                ["    ".join([""] + tokens + [""])],
                [without_needless_blanks(tokens)],
                [without_needless_blanks(tokens[:half]), without_needless_blanks(tokens[half:])],
                [without_needless_blanks(tokens[place:place + 3]) for place in range(0, len(tokens), 3)],
            ):
                self.assertEqual(read(rows), thing, rows)

    def test_a_row_end_parts_two_words(self):
        self.assertEqual(read(["[ab", "cd]"]), ("run", ["ab", "cd"]))
        self.assertEqual(read(["[abcd]"]), ("run", ["abcd"]))
        with self.assertRaises(NoThing):
            read(["ab", "cd"])

    def test_the_lists_of_the_answer_are_of_the_kinds_that_point_3_tells(self):
        thing = read(["a(b(), [], [c], d: e())"])
        self.assertEqual(repr(thing), "('bundle', 'a', [('bundle', 'b', []), ('run', []), ('run', ['c']), "
                                      "('tag', 'd', ('bundle', 'e', []))])")

    def test_every_small_order_of_words_and_marks(self):
        for count in range(7):
            known = {tuple(tokens_of(thing)): thing for thing in all_things(count)}
            for tokens in itertools.product("a" + MARKS, repeat=count):
                try:
                    thing = read(list(tokens))
                except NoThing:
                    thing = None
                self.assertEqual(thing, known.get(tokens), tokens)

    def test_every_thing_of_some_more_words_and_marks(self):
        for count in range(7, 11):
            for thing in all_things(count):
                self.assertEqual(read([flat_text(thing)]), thing)


class ReadRefuses(Refusals):
    def test_each_that_the_document_lists(self):
        for text in LISTED:
            with self.subTest(text):
                self.refused([text])

    def test_each_on_rows_of_a_word_or_a_mark(self):
        for text in LISTED:
            with self.subTest(text):
                self.refused(re.findall(r"\w+|[^\w ]", text))

    def test_more_of_the_same(self):
        for text in MORE_REFUSED:
            with self.subTest(text):
                self.refused([text])

    def test_no_word_at_all(self):
        for rows in ([], [""], [" "], ["   "], ["", ""], ["", "  ", ""], [""] * 10000):
            self.refused(rows)

    def test_another_sign_anywhere(self):
        for sign in OTHER_SIGNS:
            for place in range(len("a(b: [c d], e)") + 1):
                text = "a(b: [c d], e)"
                self.refused([text[:place] + sign + text[place:]])

    def test_another_sign_on_a_row_of_its_own(self):
        for sign in OTHER_SIGNS:
            self.refused([sign])
            self.refused([sign, "a"])
            self.refused(["a", sign])
            self.refused(["a", " " + sign + " "])
            self.refused(["[a", sign, "b]"])

    def test_a_line_feed_or_a_tab_within_a_row_is_another_sign(self):
        for rows in (["a\n"], ["\na"], ["[a\nb]"], ["a(\n  b\n)"], ["[a\tb]"], ["\ta"], ["a\r\n"], ["a()\n", "\n"]):
            self.refused(rows)

    def test_a_thing_cut_off_at_its_end_or_at_its_beginning(self):
        tokens = tokens_of(EXAMPLE)
        # The first word alone is a thing.
        for count in range(2, len(tokens)):
            self.refused(tokens[:count])
        for count in range(1, len(tokens)):
            self.refused(tokens[count:])

    def test_two_things(self):
        for one, other in itertools.product(("a", "a()", "a(b)", "[]", "[a]", "a: b"), repeat=2):
            self.refused([one, other])

    def test_rows_that_stay_unended_however_deep(self):
        for text in ("a(", "a:", "a: b(", "a(b, c("):
            self.refused([text])
            self.refused([text] * 10000)
            self.refused([text] * 9999 + [")"])
        for text in ("(", "[", ")", "]", ",", ":", "a", "a()", "[a", "a)"):
            self.refused([text] * 10000)


class ReadDeepAndLong(unittest.TestCase):
    def test_deep_things(self):
        for thing in deep_things():
            for width in (0, 40, 10 ** 6):
                self.assertEqual(read(laid(thing, width)), thing)
                self.assertEqual(laid_anew(tokens_of(thing), width), laid(thing, width))

    def test_long_things(self):
        for thing in long_things():
            for width in (0, 40, 10 ** 6):
                rows = laid(thing, width)
                self.assertEqual(read(rows), thing)
                self.assertEqual(laid_anew(rows, 60), laid(thing, 60))

    def test_ten_thousand_rows_and_somewhat_more(self):
        parts = [("run", [f"w{number}" for number in range(500)]) for _ in range(20)]
        thing = ("bundle", "h", parts)
        rows = laid(thing, 0)
        self.assertGreater(len(rows), 10000)
        self.assertEqual(read(rows), thing)
        self.assertEqual(laid_anew(rows, 80), laid(thing, 80))
        self.assertEqual(read([""] * 5000 + ["a"] + ["  "] * 4999), "a")

    def test_a_long_row(self):
        self.assertEqual(read(["[" + "ab " * 500 + "]"]), ("run", ["ab"] * 500))
        self.assertEqual(read([" " * 5000 + "w" * 5000 + " " * 5000]), "w" * 5000)


class LaidAnew(unittest.TestCase):
    def test_by_hand(self):
        rows = ["row(a,", "size:[b 2 c]", ",pair ( ) )"]
        self.assertEqual(laid_anew(rows, 29), ["row(a, size: [b 2 c], pair())"])
        self.assertEqual(laid_anew(rows, 28), ["row(", "  a,", "  size: [b 2 c],", "  pair()", ")"])
        self.assertEqual(laid_anew(rows, 15), ["row(", "  a,", "  size: [", "    b 2 c", "  ],", "  pair()", ")"])
        self.assertEqual(laid_anew(rows, 0), ["row(", "  a,", "  size: [", "    b", "    2", "    c", "  ],",
                                              "  pair()", ")"])

    def test_words_and_what_is_empty_at_any_width(self):
        for width in (0, 1, 80):
            self.assertEqual(laid_anew([" longword "], width), ["longword"])
            self.assertEqual(laid_anew(["a", "(", ")"], width), ["a()"])
            self.assertEqual(laid_anew(["[", "]"], width), ["[]"])
            self.assertEqual(laid_anew(["a:b", ":[", "]"], width), ["a: b: []"])

    def test_rows_laid_out_at_one_width_anew_at_another(self):
        for thing in small_things():
            size = len(flat_text(thing))
            for first in (0, size // 2, size):
                rows = laid(thing, first)
                for width in (0, size // 3, size - 1, size):
                    self.assertEqual(laid_anew(rows, width), laid(thing, width))

    def test_the_kinds_of_the_answer(self):
        for width in (0, 80):
            rows = laid_anew(["a(b, c)"], width)
            self.assertIs(rows.__class__, list)
            for row in rows:
                self.assertIs(row.__class__, str)


class ReadingLeavesRowsAlone(unittest.TestCase):
    def test_the_rows_are_left_as_they_were(self):
        cases = [rows for rows, _ in READ_BY_HAND] + [[text] for text in LISTED + MORE_REFUSED] + [[], [""], ["a", "b"]]
        for rows in cases:
            before = copy.deepcopy(rows)
            for answer in (read, lambda given: laid_anew(given, 0), lambda given: laid_anew(given, 80)):
                try:
                    answer(rows)
                except NoThing:
                    pass
                self.assertEqual(rows, before)

    def test_each_reading_has_lists_of_its_own(self):
        for rows in (["a()"], ["a(b)"], ["[]"], ["[b]"]):
            thing = read(rows)
            again = read(rows)
            thing[-1].append("more")
            self.assertNotEqual(again, thing)
            self.assertEqual(read(rows), again)

    def test_a_refusal_leaves_nothing_behind(self):
        for text in LISTED:
            self.assertRaises(NoThing, read, [text])
            self.assertEqual(read(["a(b)"]), ("bundle", "a", ["b"]))


if __name__ == "__main__":
    unittest.main()
