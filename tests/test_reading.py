"""How a list of calls is read, and the form of what's given back."""

import unittest

from pipebench.benches import answers
from pipebench.calls import read_calls
from tests.helper import (
    HALT, asks, back, cells, counts, feed, get, go, ldi, manual, nets, new, place, put, same, save, seen, set_, tick, till,
    told, trace,
)


class Reading(unittest.TestCase):
    # Each of the twenty calls as the interface tells it, parted by hand.
    TWENTY = [
        ([0], (0, [], [])),
        ([1, 7, 2, 8, 9], (1, [7], [8, 9])),
        ([2, 7, 8], (2, [7, 8], [])),
        ([3, 7, 8], (3, [7, 8], [])),
        ([4, 7], (4, [7], [])),
        ([5, 7, 3, 1, 2, 3], (5, [7], [1, 2, 3])),
        ([6], (6, [], [])),
        ([7, 9, 1, 5], (7, [9], [5])),
        ([8, 9, 6, 2, 5, 4], (8, [9, 6], [5, 4])),
        ([9], (9, [], [])),
        ([10, 3], (10, [3], [])),
        ([11, 4, 2, 0, 1], (11, [4], [0, 1])),
        ([12], (12, [], [])),
        ([13, 65535], (13, [65535], [])),
        ([14, 4, 1, 3], (14, [4], [3])),
        ([15, 4, 1, 3], (15, [4], [3])),
        ([16], (16, [], [])),
        ([17, 4, 1, 3], (17, [4], [3])),
        ([18, 3], (18, [3], [])),
        ([19, 3], (19, [3], [])),
    ]

    def test_each_alone(self):
        for numbers, call in self.TWENTY:
            with self.subTest(numbers=numbers):
                self.assertEqual(read_calls(numbers), [call])

    def test_each_behind_each(self):
        for first, one in self.TWENTY:
            for second, other in self.TWENTY:
                self.assertEqual(read_calls(first + second), [one, other])

    def test_empty_rows(self):
        numbers = [1, 5, 0, 5, 5, 0, 7, 5, 0, 8, 5, 5, 0, 11, 5, 0, 14, 5, 0, 15, 5, 0, 17, 5, 0, 9]
        self.assertEqual([call[0] for call in read_calls(numbers)], [1, 5, 7, 8, 11, 14, 15, 17, 9])
        self.assertEqual([call[2] for call in read_calls(numbers)], [[]] * 9)

    def test_rows_that_look_like_calls(self):
        self.assertEqual(answers([1, 30, 3, 9, 0, 6, 2, 30, 3]), [1, 3, 4, 3, 9, 0, 6])


class GivenBack(unittest.TestCase):
    def test_counts_before_the_answers(self):
        calls = new() + put(0, [ldi(1, 5), HALT]) + get(0, 2) + set_(9, 1) + set_(2, 6) + go(0) + feed(3, [4, 4])
        calls += told() + tick(4) + till(2, 5) + seen()
        self.assertEqual(answers(calls), [
            1, 0, 1, 2, 3, 2, ldi(1, 5), HALT, 1, -1, 1, 0, 1, 0, 1, 2, 1, 0, 2, 1, 0, 3, 1, 1, 1,
            13, 1, 0, 0, 0, 1, 0, 5, 6, 0, 0, 0, 0, 0])

    def test_counts_before_the_answers_of_the_others(self):
        calls = place(0) + place(1) + trace(1) + trace(0) + counts() + asks(HALT) + asks(65535) + manual(1) + same(4)
        calls += cells() + nets(2) + save(1) + back(1) + back(0)
        self.assertEqual(answers(calls), [
            2, 1, 0, 1, 0, 6, 0, 65536, 65536, 65536, 0, 0, 0, 6, 1, 0, 0, 0, 0, 0, 4, 0, 8, 0, 0, 1, -4,
            13, 1, 0, 0, 0, 0, 0, 0, 0, 0, 0, 0, 0, 0, 2, 2, 1, 22, 0, 0, 0, 0, 0, 0, 0, 0, 1, 1] + [0] * 12 + [
            1, 1, 1, 0, 1, 0, 1, -4])

    def test_refusals_are_one_number(self):
        self.assertEqual(answers(get(0, 65) + feed(0, [0] * 65) + tick(2001)), [1, -1, 1, -3, 1, -1])
        calls = place(5) + trace(65) + asks(65535) + manual(2001) + same(2001) + nets(65) + save(4) + back(4)
        self.assertEqual(answers(calls), [1, -1, 1, -1, 1, -4, 1, -1, 1, -1, 1, -1, 1, -1, 1, -4])

    def test_kinds(self):
        given = answers(put(0, [ldi(1, 5), HALT]) + tick(9) + seen() + told() + get(0, 3) + till(3, 3) + get(9, 65)
                        + go(0) + trace(9) + place(0) + place(4) + counts() + asks(5) + asks(65535) + manual(5) + same(5)
                        + cells() + nets(5) + save(0) + back(0) + back(1))
        self.assertIs(type(given), list)
        self.assertEqual({type(number) for number in given}, {int})


class HandedIn(unittest.TestCase):
    CALLS = put(0, [ldi(1, 5), 0x6e00, HALT]) + set_(7, 65520) + feed(2, [5, 6]) + tick(9, [3, 1]) + seen() + told()
    CALLS += till(4, 9, [8, 1]) + feed(2, [7]) + get(0, 5) + go(0) + trace(3, [2, 1]) + place(2) + counts() + asks(5)
    CALLS += save(1) + manual(4, [3, 1]) + same(4, [3, 1]) + cells() + nets(4, [3, 1]) + new() + back(1) + seen()

    def test_the_list_stays_the_same(self):
        calls = list(self.CALLS)
        answers(calls)
        self.assertEqual(calls, self.CALLS)

    def test_the_list_is_not_changed_for_a_while_either(self):
        class Watched(list):
            def refuse(self, *args, **names):
                raise AssertionError("changed")

            append = extend = insert = pop = remove = reverse = sort = clear = refuse
            __setitem__ = __delitem__ = __iadd__ = __imul__ = refuse

        self.assertEqual(answers(Watched(self.CALLS)), answers(self.CALLS))

    def test_what_waits_is_not_the_handed_in_row(self):
        calls = feed(2, [5, 6]) + put(0, [0x52c2]) + set_(3, 65520) + tick(4) + feed(2, [])
        before = list(calls)
        given = answers(calls)
        self.assertEqual(given[-1], 1)
        self.assertEqual(calls, before)

    def test_nothing_is_kept(self):
        first = answers(self.CALLS)
        given = answers(self.CALLS)
        self.assertEqual(given, first)
        given.append(1)
        self.assertEqual(answers(self.CALLS), first)
        self.assertEqual(answers(seen() + told() + feed(2, []) + get(0, 2)), [13] + [0] * 13 + [1, 0, 1, 0, 3, 2, 0, 0])


if __name__ == "__main__":
    unittest.main()
