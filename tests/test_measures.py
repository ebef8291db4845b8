import copy
import unittest

from foldrows.errors import FoldError, NoHeight
from foldrows.laying import laid
from foldrows.measures import height, least_width, narrowest
from samples import EXAMPLE, choices, deep_things, flat_text, long_things, small_things, widest

# Each row: the thing, its least width, its height at nought, and the narrowest width for counts from one on.
BY_HAND = [
    (EXAMPLE, 9, 9, [29, 29, 29, 29, 16, 16, 9, 9, 9, 9]),
    ("a", 1, 1, [1, 1, 1]),
    ("longword", 8, 1, [8, 8, 8]),
    (("bundle", "pair", []), 6, 1, [6, 6]),
    (("run", []), 2, 1, [2, 2]),
    (("tag", "t", "longword"), 11, 1, [11, 11]),
    (("tag", "t", ("tag", "u", ("run", []))), 8, 1, [8, 8]),
    (("bundle", "h", ["a"]), 3, 3, [4, 4, 3, 3]),
    (("bundle", "longhead", ["a"]), 9, 3, [11, 11, 9, 9]),
    (("bundle", "h", ["a", "b"]), 4, 4, [7, 7, 7, 4, 4]),
    (("bundle", "h", ["longword", "a"]), 11, 4, [14, 14, 14, 11, 11]),
    (("bundle", "h", ["a", "longword"]), 10, 4, [14, 14, 14, 10, 10]),
    (("bundle", "h", [("bundle", "a", ["b"]), ("bundle", "a", ["b"])]), 5, 8, [13, 13, 13, 7, 7, 6, 6, 5, 5]),
    (("run", ["a"]), 3, 3, [3, 3, 3]),
    (("run", ["a", "b", "c", "d", "e"]), 3, 7, [11, 11, 11, 7, 5, 5, 3, 3]),
    (("run", ["a", "longword", "b"]), 10, 5, [14, 14, 14, 12, 10, 10]),
    (("tag", "lead", ("run", ["ab", "cd"])), 7, 4, [13, 13, 7, 7]),
    (("tag", "longlead", ("run", ["a", "b"])), 11, 4, [15, 15, 11, 11]),
]

VERY_GREAT = (10 ** 6, 10 ** 30)


def fits(thing, width):
    return widest(laid(thing, width)) <= width


class MeasuresByHand(unittest.TestCase):
    def test_least_width(self):
        for thing, width, _, _ in BY_HAND:
            with self.subTest(thing=thing):
                self.assertEqual(least_width(thing), width)

    def test_height_at_nought_and_at_great_widths(self):
        for thing, _, rows, _ in BY_HAND:
            with self.subTest(thing=thing):
                self.assertEqual(height(thing, 0), rows)
                for width in VERY_GREAT:
                    self.assertEqual(height(thing, width), 1)

    def test_height_of_the_example(self):
        heights = [9] * 7 + [8] * 2 + [7] * 7 + [5] * 13 + [1] * 3
        self.assertEqual([height(EXAMPLE, width) for width in range(32)], heights)

    def test_height_at_a_row_just_at_the_width_and_one_beyond(self):
        self.assertEqual(height(("bundle", "h", ["a", "b"]), 7), 1)
        self.assertEqual(height(("bundle", "h", ["a", "b"]), 6), 4)
        self.assertEqual(height(("tag", "t", ("run", ["ab", "cd"])), 10), 1)
        self.assertEqual(height(("tag", "t", ("run", ["ab", "cd"])), 9), 3)
        self.assertEqual(height(("tag", "t", ("run", ["ab", "cd"])), 6), 4)

    def test_height_counts_rows_that_are_beyond_the_width(self):
        self.assertEqual(height("longword", 0), 1)
        self.assertEqual(height(("run", ["longword", "longest"]), 3), 4)

    def test_narrowest(self):
        for thing, _, _, widths in BY_HAND:
            for most, width in enumerate(widths, start=1):
                with self.subTest(thing=thing, most=most):
                    self.assertEqual(narrowest(thing, most), width)

    def test_narrowest_for_a_very_great_count_is_the_least_width(self):
        for thing, width, _, _ in BY_HAND:
            for most in VERY_GREAT:
                self.assertEqual(narrowest(thing, most), width)

    def test_narrowest_for_one_row_is_the_size_of_the_flat_text(self):
        for thing, _, _, _ in BY_HAND:
            self.assertEqual(narrowest(thing, 1), len(flat_text(thing)))

    def test_a_count_below_one_is_refused(self):
        for thing, _, _, _ in BY_HAND:
            for most in (0, -1, -2, -500, -10 ** 30):
                with self.subTest(thing=thing, most=most):
                    with self.assertRaises(FoldError) as caught:
                        narrowest(thing, most)
                    self.assertIs(caught.exception.__class__, NoHeight)


class MeasuresAndLaid(unittest.TestCase):
    """Each small thing at each width: the measures tell what laid does there."""

    def test_height_is_the_number_of_rows(self):
        for thing in small_things():
            for width in range(len(flat_text(thing)) + 3):
                self.assertEqual(height(thing, width), len(laid(thing, width)))

    def test_height_never_grows_where_the_width_does(self):
        for thing in small_things():
            heights = [height(thing, width) for width in range(len(flat_text(thing)) + 3)]
            self.assertEqual(heights, sorted(heights, reverse=True), thing)

    def test_no_row_is_beyond_the_least_width_or_any_greater_one(self):
        for thing in small_things():
            least = least_width(thing)
            for width in range(len(flat_text(thing)) + 3):
                self.assertEqual(fits(thing, width), width >= least, (thing, width))

    def test_no_choice_has_a_lesser_width(self):
        for thing in small_things():
            self.assertEqual(least_width(thing), min(widest(rows) for rows, _ in choices(thing)), thing)

    def test_narrowest_is_the_first_width_that_will_do(self):
        for thing in small_things():
            for most in range(1, height(thing, 0) + 3):
                found = narrowest(thing, most)
                for width in range(len(flat_text(thing)) + 3):
                    will_do = fits(thing, width) and len(laid(thing, width)) <= most
                    self.assertEqual(will_do, width >= found, (thing, most, width))

    def test_no_choice_is_narrower_for_a_count(self):
        for thing in small_things():
            layouts = [(widest(rows), len(rows)) for rows, _ in choices(thing)]
            for most in range(1, height(thing, 0) + 3):
                widths = [width for width, count in layouts if count <= most]
                self.assertEqual(narrowest(thing, most), min(widths), (thing, most))


class MeasuresDeepAndLong(unittest.TestCase):
    def check(self, thing):
        size = len(flat_text(thing))
        least = least_width(thing)
        self.assertTrue(fits(thing, least))
        self.assertFalse(fits(thing, least - 1))
        self.assertEqual(narrowest(thing, 1), size)
        self.assertEqual(narrowest(thing, 10 ** 9), least)
        for width in (least, (least + size) // 2, size):
            most = height(thing, width)
            self.assertEqual(most, len(laid(thing, width)))
            found = narrowest(thing, most)
            self.assertLessEqual(found, width)
            self.assertTrue(fits(thing, found) and height(thing, found) <= most)
            self.assertFalse(fits(thing, found - 1) and height(thing, found - 1) <= most)

    def test_deep_things(self):
        for thing in deep_things():
            self.check(thing)

    def test_long_things(self):
        for thing in long_things():
            self.check(thing)

    def test_fifty_things_deep_by_hand(self):
        thing = ("run", ["a", "b"])
        for _ in range(49):
            thing = ("tag", "t", thing)
        self.assertEqual(least_width(thing), 148)
        self.assertEqual(height(thing, 0), 4)
        self.assertEqual([narrowest(thing, most) for most in (1, 2, 3, 4)], [152, 152, 148, 148])

    def test_nine_bundles_deep_by_hand(self):
        thing = "core"
        for _ in range(9):
            thing = ("bundle", "b", [thing])
        self.assertEqual(least_width(thing), 22)
        self.assertEqual(height(thing, 0), 19)
        self.assertEqual([narrowest(thing, most) for most in (1, 2, 3, 4, 5)], [31, 31, 30, 30, 29])

    def test_five_hundred_words_by_hand(self):
        thing = ("run", [f"{number:03}" for number in range(500)])
        self.assertEqual(least_width(thing), 5)
        self.assertEqual(height(thing, 0), 502)
        self.assertEqual([narrowest(thing, most) for most in (1, 2, 3, 4, 52, 502)], [2001, 2001, 2001, 1001, 41, 5])


class MeasuresLeaveThingsAlone(unittest.TestCase):
    def test_the_thing_is_left_as_it_was(self):
        for things in (small_things(), deep_things(), long_things()):
            for thing in things:
                before = copy.deepcopy(thing)
                least_width(thing)
                self.assertEqual(thing, before)
                height(thing, 8)
                self.assertEqual(thing, before)
                narrowest(thing, 3)
                self.assertEqual(thing, before)
                self.assertRaises(NoHeight, narrowest, thing, 0)
                self.assertEqual(thing, before)

    def test_the_answers_are_whole_numbers(self):
        for thing in small_things():
            for answer in (least_width(thing), height(thing, 0), height(thing, 80), narrowest(thing, 1),
                           narrowest(thing, 5)):
                self.assertIs(answer.__class__, int)

    def test_a_thing_that_has_been_changed_since_is_measured_anew(self):
        words = ["a"]
        thing = ("run", words)
        self.assertEqual((least_width(thing), height(thing, 0), narrowest(thing, 1)), (3, 3, 3))
        words.append("bb")
        self.assertEqual((least_width(thing), height(thing, 0), narrowest(thing, 1)), (4, 4, 6))


if __name__ == "__main__":
    unittest.main()
