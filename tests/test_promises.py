"""The promises, over many programs, against a second machine that goes by the manual's steps."""

import random
import unittest

from pipebench.pipes import Pipe, empty_pipe, seen, tick
from pipebench.worlds import World
from tests import helper
from tests.helper import KIND_13, Manual, SecondBench, ask, ld, ldh, long, name_of, own, reads_of, short, three, trap


def some_word(rng):
    """A word of a program that goes back and forth near itself, with all kinds in it."""
    if rng.random() < 0.06:
        return rng.choice([rng.randrange(65536), rng.randrange(65536), helper.HALT])
    op = rng.choice([0, 0, 1, 2, 2, 3, 4, 5, 5, 6, 6, 7, 8, 9, 10, 11, 12, 13, 13])
    d, a, b = rng.randrange(8), rng.randrange(8), rng.randrange(8)
    if op in (0, 1):
        return three(op, rng.randrange(8 if op == 0 else 3), d, a, b)
    if op == 4:
        return ldh(d, rng.choice([0, 255, rng.randrange(256)]))
    if op in (2, 5, 6, 10):
        return short(op, d, a, rng.randrange(-8, 9))
    if op in (7, 8, 9):
        return long(op, d, rng.randrange(-6, 7))
    if op == 11:
        return trap(rng.randrange(8))
    if op == 13:
        return own(rng.choice(KIND_13), d)
    return (op << 12) | (rng.randrange(4096) if op == 3 else 0)


def some_value(rng):
    return rng.choice([0, 1, rng.randrange(36), 65500 + rng.randrange(36), rng.randrange(65536)])


class Pair:
    """A pipe and the manual's machine with the same program, registers and words waiting."""

    def __init__(self, seed):
        rng = random.Random(seed)
        self.rng = rng
        self.pipe, self.world, self.manual = Pipe(), World(), Manual()
        for start, many in ((0, 34), (65490, 30)):
            for place in range(start, start + many):
                self.world.memory[place] = self.manual.memory[place] = some_word(rng)
        for k in range(8):
            self.pipe.registers[k] = self.manual.r[k] = some_value(rng)
        for k in range(16):
            row = [rng.randrange(65536) for j in range(rng.randrange(4))]
            self.world.waiting[k].extend(row)
            self.manual.waiting[k].extend(row)
        self.pipe.fetching = self.manual.pc = rng.choice([0, 2, 10, 65500, 65519, 65520, 65533])
        self.pipe.may = self.manual.may = rng.randrange(2)

    def line(self):
        return 1 if self.rng.random() < 0.08 else 0

    def worlds_agree(self):
        manual, world = self.manual, self.world
        return (all(world.memory[place] == word for place, word in manual.memory.items())
                and sum(world.memory) == sum(manual.memory.values())
                and world.waiting == [manual.waiting[k] for k in range(16)]
                and world.to_tell == manual.told)


class P1(unittest.TestCase):
    def test_seen_is_what_the_manual_has_behind_as_many_steps(self):
        things = 0
        for seed in range(400):
            pair = Pair(seed)
            for k in range(60):
                line = pair.line()
                if tick(pair.pipe, pair.world, line)[0]:
                    pair.manual.step(line)
                    things += 1
                self.assertEqual(seen(pair.pipe), pair.manual.seen(), (seed, k))
                self.assertEqual(pair.world.to_tell, pair.manual.told, (seed, k))
            self.assertTrue(pair.worlds_agree(), seed)
        self.assertGreater(things, 5000)

    def test_emptied_now_and_then(self):
        for seed in range(1000, 1150):
            pair = Pair(seed)
            for k in range(60):
                line = pair.line()
                if pair.rng.random() < 0.1:
                    empty_pipe(pair.pipe)
                if tick(pair.pipe, pair.world, line)[0]:
                    pair.manual.step(line)
                self.assertEqual(seen(pair.pipe), pair.manual.seen(), (seed, k))
            self.assertTrue(pair.worlds_agree(), seed)

    def test_when_things_are_done(self):
        for seed in range(2000, 2400):
            pair = Pair(seed)
            for k in range(60):
                line = pair.line()
                done = tick(pair.pipe, pair.world, line)[0]
                self.assertEqual(done, pair.manual.tick(line), (seed, k))
            self.assertEqual(seen(pair.pipe), pair.manual.seen(), seed)


def begun(rng):
    """Calls that put a program with all kinds in it, set registers, let words wait, and go some ticks."""
    calls = [helper.put(0, [some_word(rng) for k in range(34)]), helper.put(65495, [some_word(rng) for k in range(25)])]
    calls += [helper.set_(k, some_value(rng)) for k in range(8)]
    calls += [helper.feed(k, [rng.randrange(65536) for j in range(rng.randrange(4))]) for k in range(16)]
    return calls + [helper.go(rng.choice([0, 2, 10, 65500, 65519, 65533])), helper.tick(rng.randrange(12))]


class P1AndP5(unittest.TestCase):
    """By the calls themselves: same and nets always answer 1."""

    def test_over_many_programs(self):
        things = interrupts = 0
        for seed in range(300):
            rng = random.Random(seed)
            ups = [t for t in range(64) if rng.random() < rng.choice([0, 0.1, 0.5])]
            calls = begun(rng) + [helper.same(64, ups), helper.nets(24, ups), helper.trace(24, ups), helper.same(40),
                                  helper.nets(10), helper.seen()]
            got = ask(*calls)
            self.assertEqual([got[-6][1], got[-5], got[-3][1], got[-2]], [1, [1], 1, [1]], seed)
            things += got[-6][0]
            interrupts += got[-1][3] == 1
        # That the programs are busy enough to say something.
        self.assertGreater(things, 5000)
        self.assertGreater(interrupts, 20)

    def test_far_on(self):
        for seed in range(20):
            rng = random.Random(seed)
            ups = [t for t in range(2000) if rng.random() < 0.02]
            calls = begun(rng) + [helper.same(2000, ups), helper.tick(2000, ups), helper.nets(30, ups)]
            got = ask(*calls)
            self.assertEqual([got[-3], got[-1]], [[got[-2][0], 1], [1]], seed)

    def test_of_words_as_they_come(self):
        for seed in range(100):
            rng = random.Random(seed)
            words = [rng.randrange(65536) for k in range(300)]
            calls = [helper.put(0, words), *[helper.set_(k, rng.randrange(65536)) for k in range(8)],
                     helper.go(rng.randrange(300)), helper.same(300, range(0, 300, 7)), helper.nets(20, range(0, 20, 3))]
            self.assertEqual([answer[-1] for answer in ask(*calls)[-2:]], [1, 1], seed)

    def test_manual_is_what_is_seen_behind_as_many_things(self):
        for seed in range(150):
            rng = random.Random(seed)
            calls = begun(rng)
            trace = ask(*calls, helper.trace(64))[-1]
            done = sum(trace[4::6])
            got = ask(*calls, helper.manual(done), helper.tick(64), helper.seen())
            self.assertEqual(got[-3], got[-1], seed)

    def test_manual_with_the_line_as_it_was_at_those_ticks(self):
        interrupts = 0
        for seed in range(150):
            rng = random.Random(seed)
            calls = begun(rng)
            ups = [t for t in range(50) if rng.random() < 0.2]
            trace = ask(*calls, helper.trace(50, ups))[-1]
            things = [t for t in range(50) if trace[6 * t + 4]]
            steps = [k for k, t in enumerate(things) if t in ups]
            got = ask(*calls, helper.manual(len(things), steps), helper.tick(50, ups), helper.seen())
            self.assertEqual(got[-3], got[-1], seed)
            interrupts += got[-1][3] == 1
        self.assertGreater(interrupts, 20)


def some_ups(rng):
    return [rng.randrange(30) for k in range(rng.choice([0, 0, 0, 1, 3]))]


def some_place(rng):
    return rng.choice([rng.randrange(36), 65500 + rng.randrange(36)])


# Each of the twenty calls with numbers as they come, now and then such that are refused.
SOME = [
    lambda rng: helper.new() if rng.random() < 0.1 else helper.cells(),
    lambda rng: helper.put(some_place(rng), [some_word(rng) for k in range(rng.randrange(5))]),
    lambda rng: helper.get(rng.choice([0, 20, 65450 + rng.randrange(86)]), rng.choice([0, 5, 64, 65])),
    lambda rng: helper.set_(rng.randrange(9), some_value(rng)),
    lambda rng: helper.go(some_place(rng)),
    lambda rng: helper.feed(rng.randrange(17), [rng.randrange(65536) for k in range(rng.choice([0, 1, 3, 30]))]),
    lambda rng: helper.told(),
    lambda rng: helper.tick(rng.choice([0, 1, 1, 2, 3, 5, 20, 2001]), some_ups(rng)),
    lambda rng: helper.till(rng.randrange(6), rng.choice([0, 3, 9, 30, 2001]), some_ups(rng)),
    lambda rng: helper.seen(),
    lambda rng: helper.place(rng.randrange(6)),
    lambda rng: helper.trace(rng.choice([0, 1, 1, 2, 5, 9, 30, 65]), some_ups(rng)),
    lambda rng: helper.counts(),
    lambda rng: helper.asks(rng.choice([some_word(rng), rng.randrange(65536)])),
    lambda rng: helper.manual(rng.choice([0, 1, 2, 5, 30, 2001]), some_ups(rng)),
    lambda rng: helper.same(rng.choice([0, 1, 2, 5, 30, 2001]), some_ups(rng)),
    lambda rng: helper.cells(),
    lambda rng: helper.nets(rng.choice([0, 1, 2, 3, 65]), some_ups(rng)),
    lambda rng: helper.save(rng.randrange(5)),
    lambda rng: helper.back(rng.randrange(5)),
]


class Sessions(unittest.TestCase):
    """Whole lists of calls against the second bench."""

    def check(self, seed, some):
        rng = random.Random(seed)
        calls = [helper.put(0, [some_word(rng) for k in range(34)]),
                 helper.put(65495, [some_word(rng) for k in range(25)])]
        calls += [helper.set_(k, some_value(rng)) for k in range(8)]
        calls += [rng.choice(some)(rng) for k in range(80)]
        calls += helper.PLACES + [helper.seen(), helper.cells(), helper.counts(), helper.told()]
        calls += [helper.get(0, 64), helper.get(65456, 64)]
        second = SecondBench()
        for k, (call, answer) in enumerate(zip(calls, ask(*calls))):
            self.assertEqual(answer, second.answer(call), (seed, k, call))

    def test_all_twenty(self):
        for seed in range(250):
            self.check(seed, SOME)

    def test_mostly_ticks(self):
        for seed in range(1000, 1150):
            self.check(seed, SOME + [SOME[7], SOME[8], SOME[11]] * 8 + SOME[9:13] * 3 + [SOME[16]] * 3)


class P2(unittest.TestCase):
    def test_of_any_four_ticks_something_is_done_at_one(self):
        for seed in range(3000, 3200):
            pair = Pair(seed)
            idle = 0
            for k in range(80):
                if pair.pipe.halted:
                    break
                idle = 0 if tick(pair.pipe, pair.world, pair.line())[0] else idle + 1
                self.assertLess(idle, 4, (seed, k))

    def test_four_are_needed_at_most_and_at_times(self):
        self.assertEqual(ask(helper.tick(3), helper.tick(1)), [[0, 0], [1, 0]])

    def test_in_traces(self):
        for seed in range(100):
            rng = random.Random(seed)
            trace = ask(*begun(rng), helper.save(0), helper.tick(9), helper.back(0), helper.trace(64, some_ups(rng)))[-1]
            rows = [trace[k:k + 6] for k in range(0, len(trace), 6)]
            for four in zip(rows, rows[1:], rows[2:], rows[3:]):
                if all(row[5] != 5 for row in four):
                    self.assertIn(1, [row[4] for row in four], seed)

    def test_till_comes_to_its_end_in_four_ticks_a_thing(self):
        for seed in range(100):
            calls = begun(random.Random(seed))
            got = ask(*calls, helper.till(20, 80))[-1]
            self.assertIn(got[2], (0, 1), seed)


class P3(unittest.TestCase):
    def straight(self, rng):
        op = rng.choice([0, 1, 2, 3, 4, 5, 5, 13, 13])
        d, a, b = rng.randrange(4), rng.randrange(4), rng.randrange(4)
        if op in (0, 1):
            return three(op, rng.randrange(8 if op == 0 else 3), d, a, b)
        if op == 4:
            return ldh(d, rng.randrange(256))
        if op == 13:
            return own(rng.choice(KIND_13), d)
        return (op << 12) | (d << 9) | (a << 6) | rng.randrange(64)

    def test_n_and_3_and_one_for_each_that_waits(self):
        for seed in range(200):
            rng = random.Random(seed)
            n = rng.randrange(1, 60)
            words = [self.straight(rng) for k in range(n)]
            more = 0
            for one, other in zip(words, words[1:]):
                late = name_of(one) in ("ld", "from", "cause", "may")
                more += 1 if late and (one >> 9) & 7 in reads_of(other) else 0
            start = rng.choice([0, 300, 65520 - n])
            got = ask(helper.tick(7), helper.put(start, words), helper.go(start), helper.save(1), helper.till(n, 2000),
                      helper.counts(), helper.same(n + 3 + more), helper.back(1), helper.same(n + 3 + more),
                      helper.same(n + 2 + more), helper.trace(64))
            # Behind the row stands add r0 r0 r0, which may wait for the last of it.
            waits = more + (1 if helper.late(words[-1]) and helper.writes_of(words[-1]) == 0 else 0)
            self.assertEqual(got[4:6], [[n + 3 + more, n, 0], [10 + n + more, 4 + n, 0, 0, waits, 0]], seed)
            self.assertEqual(got[8:10], [[n, 1], [n - 1, 1]], seed)
            if n + 3 + more < 64:
                self.assertEqual(sum(got[-1][4:6 * (n + 3 + more):6]), n, seed)
                self.assertEqual(got[-1][5:6 * (n + 3 + more):6].count(3), waits, seed)

    def test_by_hand(self):
        words = [ld(1, 0, 9), helper.add(2, 1, 1), own("may", 2), helper.addi(2, 2, 1), helper.ldi(3, 3)]
        self.assertEqual(ask(helper.put(0, words), helper.till(5, 100))[-1], [10, 5, 0])


class P4(unittest.TestCase):
    """What's begun and taken back reads nothing outside, puts nothing, changes no state."""

    BEGUN = [ld(1, 7, 0), short(6, 2, 7, 1), short(6, 2, 6, 0), own("let", 2), own("back", 2), trap(4), helper.HALT,
             helper.RET, 65535, helper.ldi(1, 9), helper.jr(1, 7, 0), helper.jal(1, 3)]

    def check(self, first, pc, state=(), ups=(), let=False):
        """first goes on at pc, whatever the three behind it are."""
        for one in self.BEGUN:
            for other in self.BEGUN:
                words = [first, one, other, one]
                begin = [helper.put(100, [own("let", 2)] + words), helper.set_(2, 77), helper.set_(6, 900),
                         helper.set_(7, 65520), helper.set_(5, 200), helper.feed(0, [1, 2, 3]),
                         helper.go(100 if let else 101)]
                ticks = 5 if let else 4
                end = [helper.seen(), helper.told(), helper.feed(0, []), helper.get(900, 1)]
                registers = {2: 77, 5: 200, 6: 900, 7: 65520}
                want = [helper.shown(registers, pc=pc, **dict(state)), [0], [3], [1, 0]]
                for call in (helper.till(2 if let else 1, 20, ups), helper.tick(ticks, ups), helper.trace(ticks, ups)):
                    self.assertEqual(ask(*begin, call, *end)[-4:], want)
                got = ask(*begin, helper.save(0), helper.same(20, ups), helper.tick(ticks, ups), helper.back(0),
                          helper.nets(6 if one == other else 0, ups), helper.tick(ticks, ups), *end)
                self.assertEqual([got[8][1], got[11]], [1, [1]])
                self.assertEqual(got[-4:], want)

    def test_behind_a_trap(self):
        self.check(trap(3), 2, {"from_": 102, "cause": 19})

    def test_behind_no_instruction(self):
        self.check(61440, 2, {"from_": 101, "cause": 2})

    def test_behind_an_interrupt(self):
        self.check(ld(1, 7, 0), 2, {"from_": 101, "cause": 1}, ups=[4], let=True)

    def test_behind_ret(self):
        self.check(helper.RET, 0, {"may": 1})

    def test_behind_halt(self):
        self.check(helper.HALT, 101, {"halted": 1})

    def test_behind_a_branch(self):
        self.check(helper.bz(0, 90), 192)
        self.check(helper.bnz(5, 90), 192)

    def test_behind_jr(self):
        for one in self.BEGUN:
            calls = [helper.put(100, [helper.jr(4, 5, 0), one, one, one]), helper.set_(2, 77), helper.set_(6, 900),
                     helper.set_(7, 65520), helper.set_(5, 200), helper.feed(0, [1, 2, 3]), helper.go(100),
                     helper.tick(12), helper.seen(), helper.told(), helper.feed(0, []), helper.get(900, 1)]
            registers = {2: 77, 4: 101, 5: 200, 6: 900, 7: 65520}
            got = ask(*calls)
            self.assertEqual(got[-4:], [helper.shown(registers, pc=206), [0], [3], [1, 0]])


class P6(unittest.TestCase):
    ASKING = [helper.seen(), helper.get(0, 64), *helper.PLACES, helper.counts(), helper.asks(0), helper.manual(40, [3, 5]),
              helper.same(40, [3, 5]), helper.cells(), helper.nets(9, [3, 5]), helper.tick(0), helper.till(0, 9),
              helper.trace(0), helper.save(0)]
    REFUSED = [helper.get(9, 65), helper.set_(8, 8), helper.put(65519, [1, 2]), helper.feed(16, [1]),
               helper.feed(3, [1] * 65), helper.tick(2001), helper.till(1, 2001), helper.place(5), helper.trace(65),
               helper.asks(65535), helper.manual(2001), helper.same(2001), helper.nets(65), helper.save(4),
               helper.back(1), helper.back(4)]
    END = [helper.cells(), helper.counts(), *helper.PLACES, helper.seen(), helper.told(), helper.get(0, 64),
           *[helper.feed(k, []) for k in range(16)], helper.tick(1), helper.cells(), helper.trace(20), helper.seen(),
           helper.told(), helper.get(0, 64), helper.get(65456, 64), helper.counts(), helper.back(1)]

    def check(self, seed, asking):
        begin = begun(random.Random(seed))
        want = ask(*begin, *self.END)[len(begin):]
        self.assertEqual(ask(*begin, *asking, *self.END)[len(begin) + len(asking):], want, seed)

    def test_what_only_asks_and_what_is_refused_changes_nothing(self):
        for seed in range(60):
            self.check(seed, self.ASKING + self.REFUSED)

    def test_each_alone(self):
        for seed in (3, 4, 5):
            for call in self.ASKING + self.REFUSED:
                self.check(seed, [call])

    def test_each_answers_the_same_twice(self):
        for seed in range(10):
            begin = begun(random.Random(seed))
            for call in self.ASKING + self.REFUSED:
                got = ask(*begin, call, call)
                self.assertEqual(got[-1], got[-2], (seed, call))


class Largest(unittest.TestCase):
    """A list as large as the interface lets be handed in."""

    def check(self, calls, nets=0):
        flat = [number for call in calls for number in call]
        rows = sum([1 for call in calls if call[0] in helper.ROWS])
        ticks = sum([call[helper.ROWS[call[0]] - 2] for call in calls if call[0] in (7, 8, 11, 14, 15)])
        self.assertEqual([len(calls), len(flat) - rows, ticks], [300, 5000, 20000])
        self.assertEqual(sum([call[1] for call in calls if call[0] == 17]), nets)
        self.assertLessEqual(len([call for call in calls if call[0] == 15]), 20)
        second = SecondBench()
        before = list(flat)
        got = ask(*calls)
        self.assertEqual(got, [second.answer(call) for call in calls])
        self.assertEqual(flat, before)
        self.assertEqual(got, ask(*calls))

    def filled(self, calls, call):
        """The calls and one more whose row fills up what's left of the 5000 numbers."""
        used = sum([len(one) - (1 if one[0] in helper.ROWS else 0) for one in calls])
        return calls + [call([0] * (5000 - used - 2))]

    def test_many_ticks_of_programs(self):
        rng = random.Random(5)
        calls = [helper.put(65520 - 2000, [some_word(rng) for k in range(2000)]),
                 helper.put(0, [helper.RET] + [helper.RET] * 33)]
        while len(calls) < 299:
            calls.append(rng.choice([helper.seen(), helper.set_(rng.randrange(8), some_value(rng)), helper.told(),
                                     helper.go(65520 - rng.randrange(2000)), helper.feed(3, [1])]))
        calls[100] = helper.tick(2000, range(0, 1000, 7))
        for k in range(8):
            calls[110 + 20 * k] = helper.till(65535, 2000, range(k, 1000, 9))
        self.check(self.filled(calls, lambda row: helper.tick(2000, row)))

    def test_all_twenty_calls(self):
        rng = random.Random(6)
        calls = [helper.put(65520 - 1000, [some_word(rng) for k in range(1000)]),
                 helper.put(0, [helper.RET] + [some_word(rng) for k in range(33)])]
        calls += [helper.set_(k, some_value(rng)) for k in range(8)]
        # 20 times same and 300 ticks of nets, 64 of each trace; tick has the rest of the 20000.
        large = [helper.same(500, range(k, 60, 5)) for k in range(20)] + [helper.nets(64, [5, 6])] * 4 + [helper.nets(44)]
        large += [helper.trace(64, [9])] * 10 + [helper.manual(500, [2, 9])] * 5 + [helper.till(65535, 700, [1])] * 5
        ticks = 20000 - 20 * 500 - 10 * 64 - 5 * 500 - 5 * 700
        rest = [helper.new()]
        while len(calls) + len(large) + len(rest) < 298:
            rest.append(rng.choice([helper.get(0, 64), helper.seen(), helper.set_(rng.randrange(8), some_value(rng)),
                                    helper.told(), helper.go(65520 - rng.randrange(1000)), helper.feed(3, [1]),
                                    helper.counts(), helper.asks(rng.randrange(65536)), helper.cells(),
                                    helper.save(rng.randrange(4)), helper.back(rng.randrange(4)),
                                    helper.place(rng.randrange(5))]))
        mixed = rest + large
        rng.shuffle(mixed)
        calls += mixed + [helper.tick(ticks - 2000)]
        calls = self.filled(calls, lambda row: helper.tick(2000, row))
        self.assertEqual({call[0] for call in calls}, set(range(20)))
        self.check(calls, nets=300)

    def test_the_longest_rows(self):
        row = [k * 13 % 65536 for k in range(4998)]
        self.assertEqual(ask(helper.put(60522, row)), [[4998]])
        self.assertEqual(ask(helper.put(60523, row)), [[-1]])
        self.assertEqual(ask(helper.feed(0, row)), [[-3]])
        self.assertEqual(ask(helper.tick(2000, row)), [[1997, 0]])
        self.assertEqual(ask(helper.till(5, 2000, row[1:])), [[8, 5, 0]])
        self.assertEqual(ask(helper.manual(2000, row)), [helper.shown(pc=2000)])
        self.assertEqual(ask(helper.same(2000, row)), [[1997, 1]])
        self.assertEqual(ask(helper.nets(64, row)), [[1]])
        self.assertEqual(len(ask(helper.trace(64, row))[0]), 384)

    def test_all_numbers_in_one_row(self):
        calls = [helper.tick(2000) for k in range(10)] + [helper.new() for k in range(289)]
        calls.append(helper.put(0, list(range(5000 - 20 - 289 - 2))))
        self.check(calls)

    def test_three_hundred_of_each(self):
        wants = {9: helper.shown(), 12: [0] * 6, 14: helper.shown(pc=1), 16: [0] * 22, 17: [1], 18: [0], 19: [-4]}
        for call in (helper.seen(), helper.counts(), helper.manual(1), helper.cells(), helper.nets(1), helper.save(1),
                     helper.back(1)):
            self.assertEqual(ask(*[call] * 300), [wants[call[0]]] * 300)
        self.assertEqual(ask(*[helper.save(1), helper.back(1)] * 150), [[0]] * 300)


if __name__ == "__main__":
    unittest.main()
