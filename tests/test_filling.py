import copy
import itertools
import unittest

from foldrows.filling import filled
from samples import ways_to_break

ROOMS = range(-3, 25)


def row_size(row):
    return len(" ".join(row))


def words_of(rows):
    return [word for row in rows for word in row]


def small_lists():
    letters = "abcde"
    for count in range(6):
        for sizes in itertools.product((1, 2, 3, 5), repeat=count):
            yield [letter * size for letter, size in zip(letters, sizes)]


class FilledByHand(unittest.TestCase):
    def check(self, words, room, rows):
        self.assertEqual(filled(words, room), rows)

    def test_no_words_give_no_row(self):
        for room in (-1, 0, 1, 80):
            self.check([], room, [])

    def test_one_word(self):
        for room in (-1, 0, 1, 3, 4, 80):
            self.check(["word"], room, [["word"]])

    def test_words_that_fit_just_to_the_sign(self):
        self.check(["ab", "cd"], 5, [["ab", "cd"]])
        self.check(["ab", "cd", "e"], 7, [["ab", "cd", "e"]])
        self.check(["a", "b", "c", "d"], 3, [["a", "b"], ["c", "d"]])

    def test_words_that_do_not_fit_by_one_sign(self):
        self.check(["ab", "cd"], 4, [["ab"], ["cd"]])
        self.check(["ab", "cd", "e"], 6, [["ab", "cd"], ["e"]])
        self.check(["a", "b", "c", "d"], 2, [["a"], ["b"], ["c"], ["d"]])

    def test_the_first_rows_are_the_full_ones(self):
        self.check(["a", "b", "c", "d", "e"], 5, [["a", "b", "c"], ["d", "e"]])
        self.check(["aaa", "b", "cc", "dddd", "e"], 6, [["aaa", "b"], ["cc"], ["dddd", "e"]])

    def test_a_word_longer_than_the_room_stands_alone(self):
        self.check(["longer"], 3, [["longer"]])
        self.check(["longer", "a", "b"], 3, [["longer"], ["a", "b"]])
        self.check(["a", "longer", "b"], 3, [["a"], ["longer"], ["b"]])
        self.check(["a", "b", "longer"], 3, [["a", "b"], ["longer"]])
        self.check(["longer", "longest"], 3, [["longer"], ["longest"]])

    def test_a_word_just_as_long_as_the_room(self):
        self.check(["a", "bcd", "e"], 3, [["a"], ["bcd"], ["e"]])

    def test_rooms_of_one_nought_and_less(self):
        for room in (2, 1, 0, -1, -2, -7, -10 ** 30):
            with self.subTest(room=room):
                self.check(["a", "bc", "d"], room, [["a"], ["bc"], ["d"]])

    def test_a_very_great_room(self):
        for room in (10 ** 6, 10 ** 30):
            self.check(["a", "bc", "d"], room, [["a", "bc", "d"]])

    def test_like_words_are_all_kept(self):
        self.check(["a", "a", "a"], 3, [["a", "a"], ["a"]])

    def test_words_of_figures(self):
        self.check(["0", "12", "9"], 4, [["0", "12"], ["9"]])

    def test_five_hundred_words_and_somewhat_more(self):
        for count in (500, 510):
            words = [f"{number:03}" for number in range(count)]
            self.check(words, 39, [words[start:start + 10] for start in range(0, count, 10)])
            self.check(words, 38, [words[start:start + 9] for start in range(0, count, 9)])
            self.check(words, count * 4 - 1, [words])
            self.check(words, count * 4 - 2, [words[:-1], words[-1:]])


class FilledEverySmallList(unittest.TestCase):
    def test_the_rows_hold_the_words_in_their_order(self):
        for words in small_lists():
            for room in ROOMS:
                self.assertEqual(words_of(filled(words, room)), words)

    def test_no_row_is_empty(self):
        for words in small_lists():
            for room in ROOMS:
                self.assertNotIn([], filled(words, room))

    def test_no_row_but_one_of_a_single_word_is_longer_than_the_room(self):
        for words in small_lists():
            for room in ROOMS:
                for row in filled(words, room):
                    self.assertTrue(len(row) == 1 or row_size(row) <= room, (words, room, row))

    def test_each_row_has_as_many_words_as_it_can_have(self):
        for words in small_lists():
            for room in ROOMS:
                rows = filled(words, room)
                for row, after in zip(rows, rows[1:]):
                    self.assertGreater(row_size(row + after[:1]), room, (words, room))

    def test_no_other_way_within_the_room_has_fewer_rows(self):
        for words in small_lists():
            ways = [(max(map(row_size, way), default=0), len(way)) for way in ways_to_break(words)]
            for room in ROOMS:
                within = [count for widest, count in ways if widest <= room]
                if within:
                    rows = filled(words, room)
                    self.assertLessEqual(max(map(row_size, rows), default=0), room, (words, room))
                    self.assertEqual(len(rows), min(within), (words, room))

    def test_a_greater_room_never_needs_more_rows(self):
        for words in small_lists():
            counts = [len(filled(words, room)) for room in ROOMS]
            self.assertEqual(counts, sorted(counts, reverse=True), words)


class FilledLeavesThingsAlone(unittest.TestCase):
    def test_the_list_handed_in_is_unchanged(self):
        for words in ([], ["a"], ["a", "bc", "longer", "d"], [f"w{number}" for number in range(500)]):
            for room in (-1, 0, 1, 4, 10 ** 6):
                before = copy.deepcopy(words)
                filled(words, room)
                self.assertEqual(words, before)

    def test_the_rows_are_lists_of_their_own(self):
        for room in (0, 3, 80):
            words = ["a", "b", "c"]
            rows = filled(words, room)
            for row in rows:
                row.append("more")
            self.assertEqual(words, ["a", "b", "c"])
            self.assertNotIn("more", words_of(filled(words, room)))

    def test_nothing_is_kept_from_call_to_call(self):
        first = filled(["a", "b", "c"], 3)
        filled(["d", "e"], 1)
        self.assertEqual(filled(["a", "b", "c"], 3), first)

    def test_the_answer_is_a_list_of_lists_of_texts(self):
        rows = filled(["a", "b", "c"], 3)
        self.assertIs(rows.__class__, list)
        for row in rows:
            self.assertIs(row.__class__, list)
            for word in row:
                self.assertIs(word.__class__, str)


if __name__ == "__main__":
    unittest.main()
