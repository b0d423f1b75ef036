"""The calls new to seen: ordinary inputs, edges; the refusals of all calls; answers worked out by hand."""

import unittest

from pipebench.benches import answers
from tests.helper import (
    HALT, PLACES, add, addi, ask, asks, back, cells, counts, feed, get, go, jal, ld, ldi, manual, nets, new, own, place,
    put, same, save, seen, set_, shown, st, tick, till, told, trace, trap,
)

NOP = addi(0, 0, 0)


class New(unittest.TestCase):
    def test_at_first(self):
        self.assertEqual(answers([9]), [13] + [0] * 13)
        self.assertEqual(ask(get(0, 3), get(65517, 3), told(), feed(0, [])), [[3, 0, 0, 0], [3, 0, 0, 0], [0], [0]])

    def test_all_is_as_at_first_again(self):
        program = [trap(1), 0, own("let", 1), st(1, 2, 0), ld(3, 2, 1), st(1, 4, 0), HALT]
        calls = [put(0, program), set_(1, 9), set_(2, 65520), set_(4, 40), feed(1, [8, 8]), feed(2, [7]),
                 tick(30), seen()]
        got = ask(*calls, new(), seen(), told(), get(0, 10), get(40, 1), feed(1, []), feed(2, []), tick(5), seen())
        self.assertEqual(got[6:8], [[6, 1], shown({1: 9, 2: 65520, 3: 8, 4: 40}, pc=6, may=1, from_=1, cause=17,
                                                  halted=1)])
        self.assertEqual(got[8:], [[0], shown(), [0], [10] + [0] * 10, [1, 0], [0], [0], [2, 0], shown(pc=2)])

    def test_the_pipe_is_empty(self):
        got = ask(put(0, [ldi(1, 1), ldi(2, 2)]), tick(4), new(), seen(), tick(3), tick(1), seen())
        self.assertEqual(got[2:], [[0], shown(), [0, 0], [1, 0], shown(pc=1)])


class PutAndGet(unittest.TestCase):
    def test_ordinary(self):
        got = ask(put(10, [1, 65535, 3]), get(9, 5), put(11, [7]), get(10, 3))
        self.assertEqual(got, [[3], [5, 0, 1, 65535, 3, 0], [1], [3, 1, 7, 3]])

    def test_no_words(self):
        got = ask(put(0, []), put(65519, []), put(65520, []), put(65535, []), get(65520, 0), get(65535, 0), get(0, 0))
        self.assertEqual(got, [[0]] * 7)

    def test_put_up_to_memorys_end(self):
        got = ask(put(65519, [5]), put(65517, [1, 2, 3]), get(65517, 3), put(65456, list(range(64))), get(65456, 64))
        self.assertEqual(got, [[1], [3], [3, 1, 2, 3], [64], [64] + list(range(64))])

    def test_put_one_beyond(self):
        got = ask(put(65518, [1, 2]), put(65518, [7, 8, 9]), put(65519, [8, 9]), put(65520, [9]), put(65535, [9]),
                  get(65518, 2), told())
        self.assertEqual(got, [[2], [-1], [-1], [-1], [-1], [2, 1, 2], [0]])

    def test_get_up_to_memorys_end_and_beyond(self):
        got = ask(put(65519, [5]), get(65519, 1), get(65519, 2), get(65520, 1), get(65535, 1), get(65456, 64),
                  get(65457, 64))
        self.assertEqual(got, [[1], [1, 5], [-1], [-1], [-1], [64] + [0] * 63 + [5], [-1]])

    def test_get_of_64_and_65(self):
        self.assertEqual(ask(get(0, 64), get(0, 65), get(0, 65535), get(65535, 65535)),
                         [[64] + [0] * 64, [-1], [-1], [-1]])


class SetAndGo(unittest.TestCase):
    def test_set_each(self):
        calls = [set_(k, 100 + k) for k in range(8)] + [seen()]
        self.assertEqual(ask(*calls), [[0]] * 8 + [shown({k: 100 + k for k in range(8)})])

    def test_set_7_and_8(self):
        self.assertEqual(ask(set_(7, 65535), set_(8, 1), set_(65535, 1), seen()),
                         [[0], [-1], [-1], shown({7: 65535})])

    def test_go(self):
        self.assertEqual(ask(go(500), seen(), go(65535), seen(), tick(4), seen()),
                         [[0], shown(pc=500), [0], shown(pc=65535), [1, 0], shown(pc=0)])

    def test_go_ends_a_halt_and_leaves_the_rest(self):
        program = [trap(1), 0, own("let", 1), HALT]
        got = ask(put(0, program), set_(1, 1), tick(30), seen(), go(7), seen(), tick(4), seen())
        self.assertEqual(got[2:], [
            [3, 1], shown({1: 1}, pc=3, may=1, from_=1, cause=17, halted=1),
            [0], shown({1: 1}, pc=7, may=1, from_=1, cause=17),
            [1, 0], shown({1: 1}, pc=8, may=1, from_=1, cause=17)])

    def test_put_and_set_do_not_end_a_halt(self):
        got = ask(put(0, [HALT]), tick(4), put(0, [NOP]), set_(1, 2), tick(5), seen())
        self.assertEqual(got[1:], [[1, 1], [1], [0], [0, 1], shown({1: 2}, halted=1)])


class Emptying(unittest.TestCase):
    PROGRAM = [ldi(1, 1), ldi(2, 2), ldi(3, 3), ldi(4, 4), ldi(5, 5), ldi(6, 6)]

    def test_put_set_and_go_empty_places_that_are_not_empty(self):
        # Behind 5 ticks ldi r1 and ldi r2 are done, the latter stands in put.
        begin = [put(0, self.PROGRAM), tick(5)]
        for call in (put(500, [9]), put(500, []), set_(7, 9), go(2)):
            with self.subTest(call=call):
                got = ask(*begin, call, seen(), tick(3), tick(1), seen())
                r7 = {7: 9} if call == set_(7, 9) else {}
                self.assertEqual(got[3], shown({1: 1, 2: 2, **r7}, pc=2))
                self.assertEqual(got[4:6], [[0, 0], [1, 0]])
                self.assertEqual(got[6], shown({1: 1, 2: 2, 3: 3, **r7}, pc=3))

    def test_what_only_asks_and_feed_do_not_empty(self):
        for call in (seen(), get(0, 1), told(), feed(0, [1]), tick(0), till(0, 5), till(5, 0), place(0), place(4),
                     trace(0), counts(), asks(0), manual(9), same(9), cells(), nets(9), save(0)):
            with self.subTest(call=call):
                got = ask(put(0, self.PROGRAM), tick(5), call, tick(1), tick(1))
                self.assertEqual(got[3:], [[1, 0], [1, 0]])

    def test_a_refused_one_does_not_empty(self):
        for call, number in ((put(65519, [1, 2]), -1), (set_(8, 9), -1), (get(0, 65), -1), (feed(16, [1]), -1),
                             (feed(0, [1] * 65), -3), (tick(2001), -1), (till(1, 2001), -1), (place(5), -1),
                             (trace(65), -1), (asks(65535), -4), (manual(2001), -1), (same(2001), -1), (nets(65), -1),
                             (save(4), -1), (back(0), -4), (back(4), -4)):
            with self.subTest(call=call):
                got = ask(put(0, self.PROGRAM), tick(5), call, tick(1), tick(1))
                self.assertEqual(got[2:], [[number], [1, 0], [1, 0]])

    def test_set_of_a_register_that_stands_in_put(self):
        got = ask(put(0, self.PROGRAM), tick(5), set_(2, 99), seen(), tick(4), seen())
        self.assertEqual(got[3], shown({1: 1, 2: 99}, pc=2))
        self.assertEqual(got[5], shown({1: 1, 2: 99, 3: 3}, pc=3))

    def test_set_counts_for_what_was_read_already(self):
        program = [ldi(1, 1), add(2, 1, 1), add(3, 2, 1)]
        got = ask(put(0, program), tick(4), set_(1, 50), tick(5), seen())
        self.assertEqual(got[-1], shown({1: 50, 2: 100, 3: 150}, pc=3))

    def test_put_counts_for_what_was_fetched_already(self):
        got = ask(put(0, self.PROGRAM), tick(4), put(1, [ldi(7, 9)]), seen(), tick(4), seen())
        self.assertEqual(got[3:], [shown({1: 1}, pc=1), [1, 0], shown({1: 1, 7: 9}, pc=2)])

    def test_emptied_while_a_branch_is_begun(self):
        # Behind 3 ticks jal stands in memory, fetch's address is 61 already.
        got = ask(put(50, [jal(1, 9)]), go(50), tick(3), set_(2, 2), seen(), tick(3), tick(1), seen())
        self.assertEqual(got[4:], [shown({2: 2}, pc=50), [0, 0], [1, 0], shown({1: 51, 2: 2}, pc=60)])


class FeedAndTold(unittest.TestCase):
    def test_feed_answers_how_many_wait(self):
        got = ask(feed(3, [1, 2]), feed(3, [5]), feed(3, []), feed(4, [9]), feed(0, []), feed(15, [1]), feed(16, [1]),
                  feed(65535, []))
        self.assertEqual(got, [[2], [3], [3], [1], [0], [1], [-1], [-1]])

    def test_64_and_65(self):
        row = list(range(64))
        got = ask(feed(2, row), feed(2, [1]), feed(2, []), feed(3, row + [1]), feed(3, []), feed(4, row[1:]),
                  feed(4, [1, 2]), feed(4, [1]), feed(4, [1]))
        self.assertEqual(got, [[64], [-3], [64], [-3], [0], [63], [-3], [64], [-3]])

    def test_of_two_refusals_the_first_told(self):
        self.assertEqual(ask(feed(16, [0] * 65)), [[-1]])

    def test_reading_with_none_one_and_several_waiting(self):
        program = [ld(1, 7, 5), ld(2, 7, 5), ld(3, 7, 5), ld(4, 7, 5)]
        for waiting, registers in (([], {}), ([11], {1: 11}), ([11, 22, 33], {1: 11, 2: 22, 3: 33}),
                                   ([1, 2, 3, 4, 5], {1: 1, 2: 2, 3: 3, 4: 4})):
            with self.subTest(waiting=waiting):
                got = ask(put(0, program), set_(7, 65520), feed(5, waiting), tick(7), seen(), feed(5, []))
                self.assertEqual(got[-2], shown({7: 65520, **registers}, pc=4))
                self.assertEqual(got[-1], [max(0, len(waiting) - 4)])

    def test_each_outside_has_its_own_row(self):
        for k in range(16):
            calls = [feed(j, [100 + j]) for j in range(16)]
            got = ask(*calls, put(0, [ld(1, 7, k)]), set_(7, 65520), tick(4), seen(), feed(k, []), feed(15 - k, []))
            self.assertEqual(got[-3:], [shown({1: 100 + k, 7: 65520}, pc=1), [0], [1]])

    def test_fetching_outside_leaves_what_waits(self):
        got = ask(feed(0, [ldi(1, 5), 6]), set_(0, 3), go(65520), tick(8), seen(), feed(0, []),
                  put(0, [ld(2, 7, 0)]), set_(7, 65520), go(0), tick(4), seen(), feed(0, []))
        self.assertEqual(got[3:6], [[5, 0], shown({0: 96}, pc=65525), [2]])
        self.assertEqual(got[-2:], [shown({0: 96, 2: ldi(1, 5), 7: 65520}, pc=1), [1]])

    def test_told_in_order(self):
        program = [st(1, 7, 0), st(2, 7, 15), st(3, 7, 0), st(4, 7, -1), st(0, 7, 7)]
        registers = [set_(1, 111), set_(2, 222), set_(3, 333), set_(4, 444), set_(7, 65520)]
        got = ask(put(0, program), *registers, tick(6), told(), tick(2), told(), told(), get(65519, 1))
        self.assertEqual(got[6:], [[3, 0], [3, 0, 111, 15, 222, 0, 333], [2, 0], [1, 7, 0], [0], [1, 444]])

    def test_what_is_put_outside_is_not_read_there(self):
        got = ask(put(0, [st(1, 7, 0), ld(2, 7, 0)]), set_(1, 9), set_(2, 8), set_(7, 65520), tick(5), seen(), told())
        self.assertEqual(got[-2:], [shown({1: 9, 7: 65520}, pc=2), [1, 0, 9]])

    def test_memorys_last_word_and_the_first_outside(self):
        program = [st(1, 7, -1), st(2, 7, 0), ld(3, 7, -1), ld(4, 7, 0)]
        got = ask(put(0, program), set_(1, 5), set_(2, 6), set_(7, 65520), feed(0, [44]), tick(7), seen(), told(),
                  get(65519, 1))
        self.assertEqual(got[-3:], [shown({1: 5, 2: 6, 3: 5, 4: 44, 7: 65520}, pc=4), [1, 0, 6], [1, 5]])


class Tick(unittest.TestCase):
    def test_ordinary(self):
        program = [ldi(1, 1), ldi(2, 2), add(3, 1, 2), HALT]
        got = ask(put(0, program), tick(3), tick(1), tick(2), tick(1), seen(), tick(9), seen())
        end = shown({1: 1, 2: 2, 3: 3}, pc=3, halted=1)
        self.assertEqual(got, [[4], [0, 0], [1, 0], [2, 0], [1, 1], end, [0, 1], end])

    def test_all_at_once(self):
        self.assertEqual(ask(put(0, [ldi(1, 1), HALT]), tick(2000)), [[2], [2, 1]])

    def test_n_of_0_2000_and_2001(self):
        self.assertEqual(ask(tick(0), seen(), tick(2000), tick(2001), tick(65535), seen()),
                         [[0, 0], shown(), [1997, 0], [-1], [-1], shown(pc=1997)])

    def test_ups(self):
        # let is done at tick 3, may is 1 from tick 4 on; the trap's own program halts.
        program = [jal(0, 9), 0, HALT]
        rest = [own("let", 1), ldi(2, 2), ldi(3, 3), ldi(4, 4)]
        begin = [put(0, program), put(10, rest), set_(1, 1), go(10)]
        none = shown({1: 1, 2: 2, 3: 3, 4: 4}, pc=14, may=1)
        for ups, end in (([], none), ([0, 1, 2, 3], none), ([7, 8, 2000, 65535], none), ([3, 3, 3], none),
                         ([4], shown({1: 1}, pc=2, from_=11, cause=1)),
                         ([5, 5], shown({1: 1, 2: 2}, pc=2, from_=12, cause=1)),
                         ([6, 5, 6, 5], shown({1: 1, 2: 2}, pc=2, from_=12, cause=1)),
                         ([65535, 6, 0, 6], shown({1: 1, 2: 2, 3: 3}, pc=2, from_=13, cause=1))):
            with self.subTest(ups=ups):
                got = ask(*begin, tick(7, ups), seen())
                self.assertEqual(got[-1], end)
                self.assertEqual(got[-2], [4 if end == none else min([u for u in ups if u > 3]) - 2, 0])

    def test_ups_count_from_each_calls_own_first_tick(self):
        begin = [put(10, [own("let", 1), ldi(2, 2), ldi(3, 3)]), set_(1, 1), go(10), tick(4, [4])]
        self.assertEqual(ask(*begin, tick(2, [2]), seen())[-1], shown({1: 1, 2: 2, 3: 3}, pc=13, may=1))
        self.assertEqual(ask(*begin, tick(2, [0]), seen())[-1], shown({1: 1}, pc=2, from_=11, cause=1))
        self.assertEqual(ask(*begin, tick(2, [1]), seen())[-1], shown({1: 1, 2: 2}, pc=2, from_=12, cause=1))


class Till(unittest.TestCase):
    PROGRAM = [ldi(1, 1), ld(2, 0, 60), add(3, 1, 2), HALT]

    def test_things_done(self):
        got = ask(put(0, self.PROGRAM), till(1, 100), till(2, 100), seen(), till(1, 100), seen())
        self.assertEqual(got[1:], [[4, 1, 0], [3, 2, 0], shown({1: 1, 3: 1}, pc=3), [1, 1, 0],
                                   shown({1: 1, 3: 1}, pc=3, halted=1)])

    def test_halted(self):
        self.assertEqual(ask(put(0, self.PROGRAM), till(5, 100), till(5, 100)), [[4], [8, 4, 1], [0, 0, 1]])

    def test_k_things_with_the_halt_the_last(self):
        self.assertEqual(ask(put(0, self.PROGRAM), till(4, 100), till(0, 100), till(1, 100)),
                         [[4], [8, 4, 0], [0, 0, 0], [0, 0, 1]])

    def test_n_ticks(self):
        got = ask(put(0, self.PROGRAM), till(4, 5), till(4, 1), till(1, 0), till(9, 2), till(9, 1))
        self.assertEqual(got, [[4], [5, 2, 2], [1, 0, 2], [0, 0, 2], [2, 2, 1], [0, 0, 1]])

    def test_k_of_0(self):
        self.assertEqual(ask(put(0, self.PROGRAM), till(0, 100), till(0, 0), till(0, 2001), tick(4)),
                         [[4], [0, 0, 0], [0, 0, 0], [-1], [1, 0]])

    def test_n_of_0_2000_and_2001(self):
        self.assertEqual(ask(till(65535, 0), till(65535, 2000), till(1, 2001), till(65535, 65535), seen()),
                         [[0, 0, 2], [2000, 1997, 2], [-1], [-1], shown(pc=1997)])

    def test_ups(self):
        begin = [put(10, [own("let", 1), ldi(2, 2), ldi(3, 3)]), set_(1, 1), go(10)]
        rows = [([], 8, [6, 3, 0], shown({1: 1, 2: 2, 3: 3}, pc=13, may=1)),
                ([6, 7, 0, 3], 8, [6, 3, 0], shown({1: 1, 2: 2, 3: 3}, pc=13, may=1)),
                ([5, 5, 900], 8, [6, 3, 0], shown({1: 1, 2: 2}, pc=2, from_=12, cause=1)),
                ([4], 8, [8, 2, 2], shown({1: 1}, pc=2, from_=11, cause=1)),
                ([4], 9, [9, 3, 0], shown({1: 1}, pc=3, from_=11, cause=1))]
        for ups, n, answer, end in rows:
            with self.subTest(ups=ups, n=n):
                self.assertEqual(ask(*begin, till(3, n, ups), seen())[-2:], [answer, end])


class Seen(unittest.TestCase):
    def test_order(self):
        program = [trap(2), 0, own("let", 2), HALT]
        got = ask(put(0, program), *[set_(k, 11 * k + 1) for k in range(8)], tick(30), seen())
        self.assertEqual(got[-1], [3, 1, 1, 18, 1, 1, 12, 23, 34, 45, 56, 67, 78])


class Refusals(unittest.TestCase):
    """That nothing is changed by a refusal: what's seen, the pipe, the world, the counts, the slots."""

    REFUSED = [(put(65519, [1, 2]), -1), (put(65520, [1]), -1), (put(60523, [7] * 4998), -1), (get(0, 65), -1),
               (get(65519, 2), -1), (set_(8, 1), -1), (feed(16, [1]), -1), (feed(1, [1] * 62), -3),
               (feed(16, [1] * 65), -1), (tick(2001, [0, 1]), -1), (till(1, 2001), -1), (till(0, 65535), -1),
               (place(5), -1), (trace(65, [0, 1]), -1), (asks((1 << 12) | 3), -4), (manual(2001, [0]), -1),
               (same(2001, [0]), -1), (nets(65, [0]), -1), (save(4), -1), (back(3), -4), (back(4), -4)]

    def test_nothing_is_changed(self):
        program = [own("let", 1), st(2, 7, 0), st(3, 7, 1), ldi(4, 4), ld(5, 7, 1), add(6, 5, 5), st(6, 7, 2), HALT]
        begin = [put(0, program), set_(1, 1), set_(2, 2), set_(3, 3), set_(7, 65520), feed(1, [30, 31, 32, 33, 34]),
                 tick(2), save(2)]
        for ticks in range(12):
            looks = [seen(), *PLACES, cells(), counts(), get(0, 16), get(65504, 16), feed(1, []), told()]
            rest = [*looks, tick(1), seen(), tick(20), *looks, back(2), *looks, back(3)]
            want = ask(*begin, tick(ticks), *rest)[len(begin) + 1:]
            for call, number in self.REFUSED:
                got = ask(*begin, tick(ticks), call, *rest)[len(begin) + 1:]
                self.assertEqual(got[0], [number])
                self.assertEqual(got[1:], want)

    def test_the_numbers_just_below(self):
        calls = [put(65519, [1]), get(0, 64), get(65519, 1), set_(7, 1), feed(15, [1] * 64), tick(2000), till(1, 2000),
                 place(4), trace(64), asks((1 << 12) | 2), manual(2000), same(2000), nets(64), save(3), back(3)]
        for call in calls:
            with self.subTest(call=call[:3]):
                self.assertGreaterEqual(ask(save(3), call)[1][0], 0)


if __name__ == "__main__":
    unittest.main()
