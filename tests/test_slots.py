"""The calls save and back; answers worked out by hand."""

import unittest

from tests.helper import (
    HALT, PLACES, add, ask, back, cells, counts, feed, get, go, jal, ld, ldi, manual, nets, new, own, place, put, same, save,
    seen, set_, shown, st, tick, till, told, trace,
)

PROGRAM = [ldi(1, 5), ldi(2, 7), add(3, 1, 2), st(3, 7, 0), ld(4, 7, 1), add(5, 4, 4), st(5, 6, 0), HALT]
BEGIN = [put(0, PROGRAM), set_(6, 300), set_(7, 65520), feed(1, [8, 9])]

# All there is to see of a bench, then what comes of it.
ALL = [seen(), *PLACES, cells(), counts(), get(0, 64), get(300, 1), feed(1, []), feed(2, []), told(), tick(1), seen(), tick(20),
       seen(), told(), get(300, 1), feed(1, []), counts()]

# Things that change all that there is to change.
CHANGES = [put(2, [ldi(3, 99)] * 5), set_(1, 77), set_(7, 65521), feed(1, [1, 2, 3]), feed(2, [4]), go(1), tick(7), told(),
           go(0), trace(9), till(3, 40), new(), put(0, [HALT]), tick(30)]


class SlotNumbers(unittest.TestCase):
    def test_k_of_3_and_4(self):
        self.assertEqual(ask(save(0), save(1), save(2), save(3), save(4), save(65535)), [[0]] * 4 + [[-1], [-1]])

    def test_back_of_what_was_not_saved(self):
        self.assertEqual(ask(back(0), back(3), back(4), back(65535)), [[-4]] * 4)
        self.assertEqual(ask(save(2), back(0), back(1), back(2), back(3), back(4)),
                         [[0], [-4], [-4], [0], [-4], [-4]])
        self.assertEqual(ask(save(4), back(4), save(3), back(4), back(3)), [[-1], [-4], [0], [-4], [0]])

    def test_each_slot_has_its_own(self):
        calls = []
        for k in range(4):
            calls += [set_(1, 10 + k), save(k)]
        for k in (2, 0, 3, 1):
            calls += [back(k), seen()]
        self.assertEqual([answer[6] for answer in ask(*calls)[9::2]], [12, 10, 13, 11])


class SaveAndBack(unittest.TestCase):
    def test_ordinary(self):
        got = ask(*BEGIN, tick(7), save(1), told(), tick(9), seen(), told(), get(300, 1), counts(),
                  back(1), seen(), counts(), feed(1, []), get(300, 1), told(), tick(9), seen(), told(), counts())
        half = shown({1: 5, 2: 7, 3: 12, 6: 300, 7: 65520}, pc=4)
        end = shown({1: 5, 2: 7, 3: 12, 4: 8, 5: 16, 6: 300, 7: 65520}, pc=7, halted=1)
        self.assertEqual(got[4:], [
            [4, 0], [0], [1, 0, 12], [4, 1], end, [0], [1, 16], [16, 8, 1, 0, 1, 0],
            [0], half, [7, 4, 0, 0, 1, 0], [2], [1, 0], [1, 0, 12], [4, 1], end, [0], [16, 8, 1, 0, 1, 0]])

    def test_all_is_as_it_was_saved(self):
        for ticks in range(0, 18):
            want = ask(*BEGIN, tick(ticks), *ALL)[5:]
            for k in (0, 3):
                with self.subTest(ticks=ticks, k=k):
                    got = ask(*BEGIN, tick(ticks), save(k), *CHANGES, back(k), *ALL)
                    self.assertEqual(got[-len(ALL):], want)

    def test_what_is_done_behind_back_does_not_reach_into_the_slot(self):
        for ticks in (0, 4, 7, 9, 18):
            want = ask(*BEGIN, tick(ticks), *ALL)[5:]
            got = ask(*BEGIN, tick(ticks), save(2), *CHANGES, back(2), *CHANGES, back(2), *ALL, back(2), *ALL)
            self.assertEqual(got[-len(ALL):], want)
            self.assertEqual(got[-2 * len(ALL) - 1:-len(ALL) - 1], want)

    def test_places_that_are_not_empty_are_saved(self):
        got = ask(*BEGIN, tick(5), save(0), *PLACES, go(9), *PLACES, back(0), *PLACES)
        self.assertEqual(got[6:11], [[1, 5], [1, 4, PROGRAM[4]], [1, 3, PROGRAM[3], 65520, 12], [1, 2, PROGRAM[2], 12, 7],
                                     [1, 2, 7]])
        self.assertEqual(got[12:17], [[1, 9], [0], [0], [0], [0]])
        self.assertEqual(got[18:], got[6:11])

    def test_save_changes_nothing(self):
        for ticks in range(0, 18, 3):
            want = ask(*BEGIN, tick(ticks), *ALL)[5:]
            self.assertEqual(ask(*BEGIN, tick(ticks), save(0), save(0), save(3), *ALL)[8:], want)

    def test_a_slot_saved_twice(self):
        got = ask(set_(1, 1), save(0), set_(1, 2), save(0), set_(1, 3), back(0), seen(), back(0), seen())
        self.assertEqual([got[6], got[8]], [shown({1: 2}), shown({1: 2})])

    def test_back_twice_with_changes_between(self):
        begin = [put(0, PROGRAM), save(0)]
        got = ask(*begin, put(0, [HALT]), set_(1, 9), feed(3, [1]), tick(4), back(0), seen(), get(0, 1), feed(3, []),
                  put(0, [0]), set_(1, 8), feed(3, [2, 2]), back(0), seen(), get(0, 1), feed(3, []), counts())
        self.assertEqual(got[7:10], [shown(), [1, PROGRAM[0]], [0]])
        self.assertEqual(got[14:], [shown(), [1, PROGRAM[0]], [0], [0] * 6])

    def test_back_from_another_slot_saved_from_the_first(self):
        got = ask(set_(1, 1), save(0), back(0), save(1), set_(1, 2), back(1), set_(1, 3), save(1), back(0), seen(),
                  back(1), seen())
        self.assertEqual([got[9], got[11]], [shown({1: 1}), shown({1: 3})])

    def test_new_leaves_the_slots(self):
        got = ask(*BEGIN, tick(9), save(1), new(), seen(), counts(), told(), back(0), back(1), seen(), counts(), told(),
                  get(0, 8), feed(1, []))
        half = shown({1: 5, 2: 7, 3: 12, 4: 8, 6: 300, 7: 65520}, pc=5)
        self.assertEqual(got[7:], [shown(), [0] * 6, [0], [-4], [0], half, [9, 5, 0, 0, 1, 0], [1, 0, 12], [8] + PROGRAM,
                                   [1]])

    def test_what_was_to_be_told(self):
        got = ask(*BEGIN, save(0), tick(9), save(1), told(), save(2), back(0), told(), back(1), told(), told(), back(1),
                  told(), back(2), told())
        self.assertEqual(got[7], [1, 0, 12])
        self.assertEqual([got[10], got[12], got[13], got[15], got[17]], [[0], [1, 0, 12], [0], [1, 0, 12], [0]])

    def test_told_behind_back_goes_on_from_what_was_saved(self):
        # Saved with one to tell; behind back another is put outside.
        words = [st(1, 7, 0), st(2, 7, 3), HALT]
        got = ask(put(0, words), set_(1, 11), set_(2, 22), set_(7, 65520), tick(4), save(0), tick(9), told(), back(0),
                  tick(9), told())
        self.assertEqual([got[7], got[10]], [[2, 0, 11, 3, 22], [2, 0, 11, 3, 22]])

    def test_halted_is_saved(self):
        got = ask(put(0, [HALT]), tick(4), save(0), go(5), seen(), back(0), seen(), tick(3), place(0), counts())
        self.assertEqual(got[4:], [shown(pc=5), [0], shown(halted=1), [0, 1], [0], [7, 1, 1, 0, 0, 0]])

    def test_own_state_is_saved(self):
        words = [own("back", 1), own("let", 1), jal(0, 0), 65535]
        got = ask(put(0, words), set_(1, 401), tick(6), save(3), tick(20), seen(), back(3), seen())
        self.assertEqual(got[7], shown({0: 3, 1: 401}, pc=3, may=1, from_=401))
        self.assertNotEqual(got[5], got[7])

    def test_what_looks_beside_does_not_reach_into_the_slot(self):
        want = ask(*BEGIN, tick(6), *ALL)[5:]
        got = ask(*BEGIN, tick(6), save(0), manual(9), same(20), nets(20), *ALL)
        self.assertEqual(got[9:], want)
        got = ask(*BEGIN, tick(6), save(0), manual(9), same(20), nets(20), back(0), *ALL)
        self.assertEqual(got[10:], want)

    def test_refusals_change_nothing(self):
        want = ask(*BEGIN, tick(6), *ALL)[5:]
        for call, number in ((save(4), -1), (back(4), -4), (back(1), -4), (back(65535), -4)):
            got = ask(*BEGIN, tick(6), save(0), call, *ALL)
            self.assertEqual(got[6], [number])
            self.assertEqual(got[7:], want)
            got = ask(*BEGIN, tick(6), save(0), tick(9), call, back(0), *ALL)
            self.assertEqual(got[9:], want)

    def test_a_list_begins_with_nothing_saved(self):
        self.assertEqual(ask(save(0)), [[0]])
        self.assertEqual(ask(back(0)), [[-4]])


if __name__ == "__main__":
    unittest.main()
