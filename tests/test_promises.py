"""The promises, over many programs, against a second machine that goes by the manual's steps."""

import random
import unittest

from pipebench.pipes import Pipe, empty_pipe, seen, tick
from pipebench.worlds import World
from tests import helper
from tests.helper import KIND_13, Manual, SecondBench, ask, ld, ldh, long, name_of, own, reads_of, short, three, trap


def some_word(rng):
    """A word of a program that goes back and forth near itself, with all kinds in it."""
    if rng.random() < 0.06:
        return rng.choice([rng.randrange(65536), rng.randrange(65536), helper.HALT])
    op = rng.choice([0, 0, 1, 2, 2, 3, 4, 5, 5, 6, 6, 7, 8, 9, 10, 11, 12, 13, 13])
    d, a, b = rng.randrange(8), rng.randrange(8), rng.randrange(8)
    if op in (0, 1):
        return three(op, rng.randrange(8 if op == 0 else 3), d, a, b)
    if op == 4:
        return ldh(d, rng.choice([0, 255, rng.randrange(256)]))
    if op in (2, 5, 6, 10):
        return short(op, d, a, rng.randrange(-8, 9))
    if op in (7, 8, 9):
        return long(op, d, rng.randrange(-6, 7))
    if op == 11:
        return trap(rng.randrange(8))
    if op == 13:
        return own(rng.choice(KIND_13), d)
    return (op << 12) | (rng.randrange(4096) if op == 3 else 0)


def some_value(rng):
    return rng.choice([0, 1, rng.randrange(36), 65500 + rng.randrange(36), rng.randrange(65536)])


class Pair:
    """A pipe and the manual's machine with the same program, registers and words waiting."""

    def __init__(self, seed):
        rng = random.Random(seed)
        self.rng = rng
        self.pipe, self.world, self.manual = Pipe(), World(), Manual()
        for start, many in ((0, 34), (65490, 30)):
            for place in range(start, start + many):
                self.world.memory[place] = self.manual.memory[place] = some_word(rng)
        for k in range(8):
            self.pipe.registers[k] = self.manual.r[k] = some_value(rng)
        for k in range(16):
            row = [rng.randrange(65536) for j in range(rng.randrange(4))]
            self.world.waiting[k].extend(row)
            self.manual.waiting[k].extend(row)
        self.pipe.fetching = self.manual.pc = rng.choice([0, 2, 10, 65500, 65519, 65520, 65533])
        self.pipe.may = self.manual.may = rng.randrange(2)

    def line(self):
        return 1 if self.rng.random() < 0.08 else 0

    def worlds_agree(self):
        manual, world = self.manual, self.world
        return (all(world.memory[place] == word for place, word in manual.memory.items())
                and sum(world.memory) == sum(manual.memory.values())
                and world.waiting == [manual.waiting[k] for k in range(16)]
                and world.to_tell == manual.told)


class P1(unittest.TestCase):
    def test_seen_is_what_the_manual_has_behind_as_many_steps(self):
        things = 0
        for seed in range(400):
            pair = Pair(seed)
            for k in range(60):
                line = pair.line()
                if tick(pair.pipe, pair.world, line):
                    pair.manual.step(line)
                    things += 1
                self.assertEqual(seen(pair.pipe), pair.manual.seen(), (seed, k))
                self.assertEqual(pair.world.to_tell, pair.manual.told, (seed, k))
            self.assertTrue(pair.worlds_agree(), seed)
        self.assertGreater(things, 5000)

    def test_emptied_now_and_then(self):
        for seed in range(1000, 1150):
            pair = Pair(seed)
            for k in range(60):
                line = pair.line()
                if pair.rng.random() < 0.1:
                    empty_pipe(pair.pipe)
                if tick(pair.pipe, pair.world, line):
                    pair.manual.step(line)
                self.assertEqual(seen(pair.pipe), pair.manual.seen(), (seed, k))
            self.assertTrue(pair.worlds_agree(), seed)

    def test_when_things_are_done(self):
        for seed in range(2000, 2400):
            pair = Pair(seed)
            for k in range(60):
                line = pair.line()
                done = tick(pair.pipe, pair.world, line)
                self.assertEqual(done, pair.manual.tick(line), (seed, k))
            self.assertEqual(seen(pair.pipe), pair.manual.seen(), seed)


class Sessions(unittest.TestCase):
    """Whole lists of calls against the second bench."""

    def some_call(self, rng):
        kind = rng.randrange(24)
        if kind == 0:
            return helper.put(rng.choice([rng.randrange(36), 65500 + rng.randrange(36)]),
                              [some_word(rng) for k in range(rng.randrange(5))])
        if kind == 1:
            return helper.get(rng.choice([0, 20, 65450 + rng.randrange(86)]), rng.choice([0, 5, 64, 65]))
        if kind == 2:
            return helper.set_(rng.randrange(9), some_value(rng))
        if kind == 3:
            return helper.go(rng.choice([rng.randrange(36), 65500 + rng.randrange(36)]))
        if kind == 4:
            return helper.feed(rng.randrange(17), [rng.randrange(65536) for k in range(rng.choice([0, 1, 3, 30]))])
        if kind == 5:
            return helper.told()
        if kind < 12:
            n = rng.choice([0, 1, 1, 2, 3, 5, 20, 2001])
            return helper.tick(n, [rng.randrange(30) for k in range(rng.choice([0, 0, 0, 1, 3]))])
        if kind < 16:
            return helper.till(rng.randrange(6), rng.choice([0, 3, 9, 30, 2001]),
                               [rng.randrange(30) for k in range(rng.choice([0, 0, 1, 4]))])
        if kind == 16 and rng.random() < 0.1:
            return helper.new()
        return helper.seen()

    def test_many(self):
        for seed in range(250):
            rng = random.Random(seed)
            calls = [helper.put(0, [some_word(rng) for k in range(34)]),
                     helper.put(65495, [some_word(rng) for k in range(25)])]
            calls += [helper.set_(k, some_value(rng)) for k in range(8)]
            calls += [self.some_call(rng) for k in range(80)]
            calls += [helper.seen(), helper.told(), helper.get(0, 64), helper.get(65456, 64)]
            second = SecondBench()
            for call, answer in zip(calls, ask(*calls)):
                self.assertEqual(answer, second.answer(call), (seed, call))


class P2(unittest.TestCase):
    def test_of_any_four_ticks_something_is_done_at_one(self):
        for seed in range(3000, 3200):
            pair = Pair(seed)
            idle = 0
            for k in range(80):
                if pair.pipe.halted:
                    break
                idle = 0 if tick(pair.pipe, pair.world, pair.line()) else idle + 1
                self.assertLess(idle, 4, (seed, k))

    def test_four_are_needed_at_most_and_at_times(self):
        self.assertEqual(ask(helper.tick(3), helper.tick(1)), [[0, 0], [1, 0]])


class P3(unittest.TestCase):
    def straight(self, rng):
        op = rng.choice([0, 1, 2, 3, 4, 5, 5, 13, 13])
        d, a, b = rng.randrange(4), rng.randrange(4), rng.randrange(4)
        if op in (0, 1):
            return three(op, rng.randrange(8 if op == 0 else 3), d, a, b)
        if op == 4:
            return ldh(d, rng.randrange(256))
        if op == 13:
            return own(rng.choice(KIND_13), d)
        return (op << 12) | (d << 9) | (a << 6) | rng.randrange(64)

    def test_n_and_3_and_one_for_each_that_waits(self):
        for seed in range(200):
            rng = random.Random(seed)
            n = rng.randrange(1, 60)
            words = [self.straight(rng) for k in range(n)]
            more = 0
            for one, other in zip(words, words[1:]):
                late = name_of(one) in ("ld", "from", "cause", "may")
                more += 1 if late and (one >> 9) & 7 in reads_of(other) else 0
            start = rng.choice([0, 300, 65520 - n])
            got = ask(helper.tick(7), helper.put(start, words), helper.go(start), helper.till(n, 2000))
            self.assertEqual(got[-1], [n + 3 + more, n, 0], seed)

    def test_by_hand(self):
        words = [ld(1, 0, 9), helper.add(2, 1, 1), own("may", 2), helper.addi(2, 2, 1), helper.ldi(3, 3)]
        self.assertEqual(ask(helper.put(0, words), helper.till(5, 100))[-1], [10, 5, 0])


class P4(unittest.TestCase):
    """What's begun and taken back reads nothing outside, puts nothing, changes no state."""

    BEGUN = [ld(1, 7, 0), short(6, 2, 7, 1), short(6, 2, 6, 0), own("let", 2), own("back", 2), trap(4), helper.HALT,
             helper.RET, 65535, helper.ldi(1, 9), helper.jr(1, 7, 0), helper.jal(1, 3)]

    def check(self, first, pc, state=(), ups=(), let=False):
        """first goes on at pc, whatever the three behind it are."""
        for one in self.BEGUN:
            for other in self.BEGUN:
                words = [first, one, other, one]
                calls = [helper.put(100, [own("let", 2)] + words), helper.set_(2, 77), helper.set_(6, 900),
                         helper.set_(7, 65520), helper.set_(5, 200), helper.feed(0, [1, 2, 3]),
                         helper.go(100 if let else 101), helper.till(2 if let else 1, 20, ups), helper.seen(),
                         helper.told(), helper.feed(0, []), helper.get(900, 1)]
                got = ask(*calls)
                registers = {2: 77, 5: 200, 6: 900, 7: 65520}
                self.assertEqual(got[-4:], [helper.shown(registers, pc=pc, **dict(state)), [0], [3], [1, 0]])

    def test_behind_a_trap(self):
        self.check(trap(3), 2, {"from_": 102, "cause": 19})

    def test_behind_no_instruction(self):
        self.check(61440, 2, {"from_": 101, "cause": 2})

    def test_behind_an_interrupt(self):
        self.check(ld(1, 7, 0), 2, {"from_": 101, "cause": 1}, ups=[4], let=True)

    def test_behind_ret(self):
        self.check(helper.RET, 0, {"may": 1})

    def test_behind_halt(self):
        self.check(helper.HALT, 101, {"halted": 1})

    def test_behind_a_branch(self):
        self.check(helper.bz(0, 90), 192)
        self.check(helper.bnz(5, 90), 192)

    def test_behind_jr(self):
        for one in self.BEGUN:
            calls = [helper.put(100, [helper.jr(4, 5, 0), one, one, one]), helper.set_(2, 77), helper.set_(6, 900),
                     helper.set_(7, 65520), helper.set_(5, 200), helper.feed(0, [1, 2, 3]), helper.go(100),
                     helper.tick(12), helper.seen(), helper.told(), helper.feed(0, []), helper.get(900, 1)]
            registers = {2: 77, 4: 101, 5: 200, 6: 900, 7: 65520}
            got = ask(*calls)
            self.assertEqual(got[-4:], [helper.shown(registers, pc=206), [0], [3], [1, 0]])


class P6(unittest.TestCase):
    def test_what_only_asks_changes_nothing(self):
        for seed in range(60):
            rng = random.Random(seed)
            begin = [helper.put(0, [some_word(rng) for k in range(34)])]
            begin += [helper.set_(k, some_value(rng)) for k in range(8)]
            begin += [helper.feed(k, [5, 6]) for k in range(16)] + [helper.tick(rng.randrange(30))]
            end = [helper.tick(1), helper.seen(), helper.tick(20), helper.seen(), helper.told(), helper.get(0, 64)]
            want = ask(*begin, *end)[len(begin):]
            asking = [helper.seen(), helper.get(0, 64), helper.get(9, 65), helper.tick(0), helper.till(0, 9),
                      helper.set_(8, 8), helper.put(65519, [1, 2]), helper.feed(16, [1]), helper.tick(2001)]
            self.assertEqual(ask(*begin, *asking, *end)[len(begin) + len(asking):], want)


class Largest(unittest.TestCase):
    """A list as large as the interface lets be handed in."""

    def check(self, calls):
        flat = [number for call in calls for number in call]
        rows = {1: 2, 5: 2, 7: 2, 8: 3}
        counts = sum([1 for call in calls if call[0] in rows])
        ticks = sum([call[rows[call[0]] - 1] for call in calls if call[0] in (7, 8)])
        self.assertEqual([len(calls), len(flat) - counts, ticks], [300, 5000, 20000])
        second = SecondBench()
        before = list(flat)
        got = ask(*calls)
        self.assertEqual(got, [second.answer(call) for call in calls])
        self.assertEqual(flat, before)
        self.assertEqual(got, ask(*calls))

    def test_many_ticks_of_programs(self):
        rng = random.Random(5)
        calls = [helper.put(65520 - 2000, [some_word(rng) for k in range(2000)]),
                 helper.put(0, [helper.RET] + [helper.RET] * 33)]
        while len(calls) < 298:
            calls.append(rng.choice([helper.seen(), helper.set_(rng.randrange(8), some_value(rng)), helper.told(),
                                     helper.go(65520 - rng.randrange(2000)), helper.feed(3, [1])]))
        calls[100] = helper.tick(2000, range(0, 1000, 7))
        for k in range(8):
            calls[110 + 20 * k] = helper.till(65535, 2000, range(k, 1000, 9))
        used = sum([len(call) - (1 if call[0] in (1, 5, 7, 8) else 0) for call in calls])
        calls += [helper.tick(2000, [0] * (5000 - used - 4)), helper.tick(0)]
        self.check(calls)

    def test_the_longest_rows(self):
        row = [k * 13 % 65536 for k in range(4998)]
        self.assertEqual(ask(helper.put(60522, row)), [[4998]])
        self.assertEqual(ask(helper.put(60523, row)), [[-1]])
        self.assertEqual(ask(helper.feed(0, row)), [[-3]])
        self.assertEqual(ask(helper.tick(2000, row)), [[1997, 0]])
        self.assertEqual(ask(helper.till(5, 2000, row[1:])), [[8, 5, 0]])

    def test_all_numbers_in_one_row(self):
        calls = [helper.tick(2000) for k in range(10)] + [helper.new() for k in range(289)]
        calls.append(helper.put(0, list(range(5000 - 20 - 289 - 2))))
        self.check(calls)


if __name__ == "__main__":
    unittest.main()
