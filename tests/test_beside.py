"""The calls manual, same and nets: what they answer, and that they leave all as it was."""

import unittest
from unittest import mock

from pipebench import trials
from pipebench.gates import HIGH, LOW
from pipebench.machines import Machine, machine_seen
from pipebench.nets import Net
from tests.helper import (
    HALT, PLACES, RET, add, addi, ask, bz, cells, counts, feed, get, go, jal, jr, ld, ldh, ldi, manual, nets, own, put,
    same, seen, set_, shown, st, tick, told, trap,
)

NOP = addi(0, 0, 0)

# Everything that can be looked at, and then what comes of it.
ALL = [seen(), *PLACES, cells(), counts(), get(0, 64), get(300, 1), get(65456, 64), told(), *[feed(k, []) for k in range(16)],
       tick(1), seen(), tick(30), seen(), told(), get(0, 64), *[feed(k, []) for k in range(16)], counts()]

# r1 is 1, r2 is 22, r6 is 300, r7 is 65520: stores to memory, outside and into what's fetched, loads from both, an
# interrupt if the line is up behind let.
BUSY = [own("let", 1), st(2, 7, 2), ld(3, 7, 1), add(4, 3, 3), st(4, 6, 0), jal(5, 1), trap(3), ld(5, 6, 0), st(0, 0, 11),
        ld(3, 7, 1), RET, trap(1), HALT]
BEGIN_BUSY = [put(0, BUSY), set_(0, 0), set_(1, 1), set_(2, 22), set_(6, 300), set_(7, 65520), feed(1, [8, 9, 10])]


class Manual(unittest.TestCase):
    PROGRAM = [ldi(1, 5), ldi(2, 7), add(3, 1, 2), HALT]

    def test_a_machine_at_first(self):
        self.assertEqual(machine_seen(Machine()), shown())

    def test_step_by_step(self):
        got = ask(put(0, self.PROGRAM), *[manual(n) for n in range(7)])
        end = shown({1: 5, 2: 7, 3: 12}, pc=3, halted=1)
        self.assertEqual(got[1:], [shown(), shown({1: 5}, pc=1), shown({1: 5, 2: 7}, pc=2),
                                   shown({1: 5, 2: 7, 3: 12}, pc=3), end, end, end])

    def test_each_instruction(self):
        # One step of each, with the registers 100, 101, ..; r7 is 65522, where 9 waits.
        rows = [
            (add(3, 1, 2), {3: 203}, {}), (addi(3, 1, -1), {3: 100}, {}), (ldi(3, -2), {3: 65534}, {}),
            (ldh(3, 2), {3: 2 * 256 + 103}, {}), (ld(3, 7, 0), {3: 9}, {}), (ld(3, 7, 1), {3: 0}, {}),
            (st(3, 1, 0), {}, {}), (bz(3, 9), {}, {}), (bz(0, 9), {}, {"pc": 60}), (jal(3, -9), {3: 51}, {"pc": 42}),
            (jr(3, 3, 2), {3: 51}, {"pc": 105}), (trap(5), {}, {"pc": 2, "from_": 51, "cause": 21}),
            (RET, {}, {"pc": 0, "may": 1}), (HALT, {}, {"pc": 50, "halted": 1}),
            (own("from", 3), {3: 0}, {}), (own("cause", 3), {3: 0}, {}), (own("back", 3), {}, {"from_": 103}),
            (own("let", 3), {}, {"may": 1}), (own("may", 3), {3: 0}, {}),
            (65535, {}, {"pc": 2, "from_": 50, "cause": 2}),
        ]
        begin = [set_(0, 0), *[set_(k, 100 + k) for k in range(1, 7)], set_(7, 65522), feed(2, [9])]
        for word, written, other in rows:
            with self.subTest(word=hex(word)):
                got = ask(*begin, put(50, [word]), go(50), manual(1))
                registers = {k: 100 + k for k in range(1, 7)}
                registers.update({7: 65522})
                registers.update(written)
                self.assertEqual(got[-1], shown(registers, **dict({"pc": 51}, **other)))

    def test_n_of_0_2000_and_2001(self):
        got = ask(manual(0), manual(2000), manual(2001), manual(2001, [0]), manual(65535), tick(7), manual(0), manual(1996))
        self.assertEqual(got, [shown(), shown(pc=2000), [-1], [-1], [-1], [4, 0], shown(pc=4), shown(pc=2000)])

    def test_interrupts_are_numbered_by_steps(self):
        begin = [put(10, [own("let", 1), ldi(2, 2), ldi(3, 3), ldi(4, 4)]), set_(1, 1), go(10)]
        rows = [([], shown({1: 1, 2: 2, 3: 3, 4: 4}, pc=14, may=1)),
                ([0, 4, 900, 65535], shown({1: 1, 2: 2, 3: 3, 4: 4}, pc=14, may=1)),
                ([1], shown({1: 1}, pc=4, from_=11, cause=1)),
                ([2, 1, 2, 1], shown({1: 1}, pc=4, from_=11, cause=1)),
                ([2, 2], shown({1: 1, 2: 2}, pc=3, from_=12, cause=1)),
                ([3], shown({1: 1, 2: 2, 3: 3}, pc=2, from_=13, cause=1))]
        for ups, end in rows:
            with self.subTest(ups=ups):
                self.assertEqual(ask(*begin, manual(4, ups))[-1], end)

    def test_what_is_no_instruction_with_the_line_up(self):
        got = ask(put(10, [own("let", 1), 65535]), set_(1, 1), go(10), manual(2, [1]), manual(2))
        self.assertEqual(got[3:], [shown({1: 1}, pc=2, from_=11, cause=1), shown({1: 1}, pc=2, from_=11, cause=2)])

    def test_loads_and_stores_leave_the_world_as_it_was(self):
        program = [ld(1, 7, 0), ld(2, 7, 0), st(2, 7, 1), st(1, 6, 0), ld(3, 6, 0), HALT]
        begin = [put(0, program), set_(6, 300), set_(7, 65520), feed(0, [8, 9, 10])]
        end = shown({1: 8, 2: 9, 3: 8, 6: 300, 7: 65520}, pc=5, halted=1)
        got = ask(*begin, manual(6), told(), get(300, 1), feed(0, []), manual(9), seen())
        self.assertEqual(got[4:], [end, [0], [1, 0], [3], end, shown({6: 300, 7: 65520})])

    def test_a_store_into_what_comes(self):
        got = ask(put(0, [st(1, 0, 1), ldi(2, 2)]), set_(1, ldi(2, 77)), manual(2))
        self.assertEqual(got[-1], shown({1: ldi(2, 77), 2: 77}, pc=2))

    def test_fetched_outside(self):
        got = ask(feed(0, [HALT]), set_(0, 3), go(65519), manual(3), feed(0, []))
        self.assertEqual(got[3:], [shown({0: 24}, pc=65522), [1]])

    def test_pc_goes_round(self):
        self.assertEqual(ask(go(65535), manual(1), manual(2))[1:], [shown(pc=0), shown(pc=1)])

    def test_a_halted_machine(self):
        program = [trap(1), 0, own("let", 1), HALT]
        begin = [put(0, program), set_(1, 1), tick(30)]
        end = shown({1: 1}, pc=3, may=1, from_=1, cause=17, halted=1)
        self.assertEqual(ask(*begin, manual(0), manual(9), manual(2000, range(100)))[3:], [end] * 3)

    def test_from_a_pipe_whose_places_are_not_empty(self):
        words = [ldi(1, 5), ldi(2, 7), add(3, 1, 2), add(4, 3, 1), jal(5, 0), HALT]
        for ticks in range(12):
            with self.subTest(ticks=ticks):
                begin = [put(0, words), tick(ticks)]
                done = max(0, min(ticks - 3, 5)) if ticks < 9 else 5 if ticks == 9 else 6
                got = ask(*begin, seen(), manual(0), manual(1), manual(9))
                rows = [shown(), shown({1: 5}, pc=1), shown({1: 5, 2: 7}, pc=2), shown({1: 5, 2: 7, 3: 12}, pc=3),
                        shown({1: 5, 2: 7, 3: 12, 4: 17}, pc=4), shown({1: 5, 2: 7, 3: 12, 4: 17, 5: 5}, pc=5),
                        shown({1: 5, 2: 7, 3: 12, 4: 17, 5: 5}, pc=5, halted=1)]
                self.assertEqual(got[2:], [rows[done], rows[done], rows[min(done + 1, 6)], rows[6]])


class Same(unittest.TestCase):
    PROGRAM = [ldi(1, 5), ldi(2, 7), add(3, 1, 2), HALT]

    def test_how_many_things(self):
        got = ask(put(0, self.PROGRAM), *[same(n) for n in range(10)])
        self.assertEqual(got[1:], [[0, 1]] * 4 + [[1, 1], [2, 1], [3, 1], [4, 1], [4, 1], [4, 1]])

    def test_n_of_0_2000_and_2001(self):
        self.assertEqual(ask(same(0), same(2000), same(2001), same(2001, [1]), same(65535), tick(4), same(2000)),
                         [[0, 1], [1997, 1], [-1], [-1], [-1], [1, 0], [2000, 1]])

    def test_interrupts_at_ticks(self):
        begin = [put(10, [own("let", 1), ldi(2, 2), ldi(3, 3)]), set_(1, 1), go(10)]
        # An interrupt at tick 4 leaves ticks 5 to 7 with nothing done.
        self.assertEqual(ask(*begin, same(8), same(8, [4]), same(8, [3, 8]), same(8, [5]), same(9, [4]))[3:],
                         [[5, 1], [2, 1], [5, 1], [3, 1], [3, 1]])

    def test_a_busy_program_from_each_tick(self):
        for ticks in range(40):
            for ups in ([], [4], [7, 8, 9], range(40)):
                got = ask(*BEGIN_BUSY, tick(ticks), same(40, ups), same(1, [0]), tick(40, ups))
                self.assertEqual([got[-3][1], got[-2][1]], [1, 1])
                self.assertEqual(got[-3][0], got[-1][0])

    def test_nothing_is_changed(self):
        for ticks in range(30):
            want = ask(*BEGIN_BUSY, tick(ticks), *ALL)[8:]
            self.assertEqual(ask(*BEGIN_BUSY, tick(ticks), same(50, [3, 9]), *ALL)[9:], want)
            self.assertEqual(ask(*BEGIN_BUSY, tick(ticks), manual(50, [3, 9]), *ALL)[9:], want)
            self.assertEqual(ask(*BEGIN_BUSY, tick(ticks), nets(20, [3, 9]), *ALL)[9:], want)

    def with_steps(self, spoil):
        """The answer of same where each step of the manual is spoilt."""
        step = trials.step

        def spoilt(machine, world, line):
            step(machine, world, line)
            spoil(machine, world)

        with mock.patch.object(trials, "step", spoilt):
            return ask(*BEGIN_BUSY, same(3), same(7))[-2:]

    def test_0_where_the_two_sides_differ(self):
        # Things are done at the ticks 3, 4 and 5; at 6 nothing is, as add waits for ld.
        self.assertEqual(self.with_steps(lambda machine, world: None), [[0, 1], [3, 1]])
        for name, other in (("pc", 7), ("may", 0), ("origin", 9), ("cause", 9), ("halted", 1)):
            with self.subTest(name=name):
                self.assertEqual(self.with_steps(lambda machine, world: setattr(machine, name, other)),
                                 [[0, 1], [3, 0]])
        for spoil in (lambda machine, world: machine.registers.__setitem__(6, 301),
                      lambda machine, world: world.memory.__setitem__(65519, 1),
                      lambda machine, world: world.memory.__setitem__(0, 1),
                      lambda machine, world: world.waiting[15].append(0),
                      lambda machine, world: world.waiting[1].clear(),
                      lambda machine, world: world.to_tell.append((0, 0)),
                      lambda machine, world: world.to_tell.clear()):
            self.assertEqual(self.with_steps(spoil), [[0, 1], [3, 0]])


class Nets(unittest.TestCase):
    def test_n_of_0_64_and_65(self):
        self.assertEqual(ask(nets(0), nets(1), nets(64), nets(65), nets(65, [0]), nets(65535), seen(), counts()),
                         [[1], [1], [1], [-1], [-1], [-1], shown(), [0] * 6])

    def test_a_busy_program_from_each_tick(self):
        for ticks in range(30):
            for ups in ([], [4], [7, 8, 9], range(40)):
                self.assertEqual(ask(*BEGIN_BUSY, tick(ticks), nets(16, ups))[-1], [1])

    def test_what_is_no_instruction(self):
        words = [(4 << 12) | (d << 9) | 256 | i8 for d in (0, 1, 7) for i8 in (0, 1, 128, 255)]
        words += [(1 << 12) | 3, (1 << 12) | 0o1237, (11 << 12) | 8, 53249 + 64, 65535]
        values = [set_(k, 65535 - k) for k in range(8)]
        for word in words:
            with self.subTest(word=hex(word)):
                self.assertEqual(ask(*values, put(0, [word]), nets(8), tick(2), nets(8), tick(1), nets(8))[9::2],
                                 [[1], [1], [1]])

    def answer(self, spoil, *calls):
        def made():
            net = Net()
            spoil(net)
            return net

        with mock.patch("pipebench.benches.Net", made):
            return ask(*calls)[-1]

    def test_0_and_the_first_tick_where_it_holds_something_else(self):
        def never_halts(net):
            net.behind[349] = LOW

        begin = [put(0, [ldi(1, 3), HALT])]
        self.assertEqual(self.answer(never_halts, *begin, nets(4)), [1])
        self.assertEqual(self.answer(never_halts, *begin, nets(5)), [0, 4])
        self.assertEqual(self.answer(never_halts, *begin, nets(64)), [0, 4])
        self.assertEqual(self.answer(never_halts, *begin, tick(3), nets(64)), [0, 1])
        # A halted pipe is so too at the first tick.
        self.assertEqual(self.answer(never_halts, *begin, tick(9), nets(64)), [0, 0])

        def low_in_r1(net):
            net.behind[16] = LOW

        # ldi's value is in put behind tick 3, in the register behind tick 4.
        self.assertEqual(self.answer(low_in_r1, *begin, nets(9)), [0, 4])

    def test_0_where_it_shows_something_else(self):
        rows = [
            (0, [LOW] * 16, [NOP], 1), (1, [LOW] * 16, [ldi(1, 1)], 3), (2, [LOW] * 16, [st(1, 6, 0)], 3),
            (3, [LOW], [st(1, 6, 0)], 3), (3, [HIGH], [NOP], 0), (4, [LOW], [NOP, ld(2, 6, 0)], 4), (4, [HIGH], [NOP], 0),
            (5, [LOW], [NOP], 3), (5, [HIGH], [NOP], 0), (6, [LOW], [HALT], 4), (6, [HIGH], [NOP], 0),
        ]
        for which, wires, words, number in rows:
            def spoil(net):
                net.showing = net.showing[:which] + (wires,) + net.showing[which + 1:]

            with self.subTest(which=which, wires=wires):
                begin = [put(0, words), set_(1, 5), set_(6, 300)]
                self.assertEqual(self.answer(spoil, *begin, nets(9)), [0, number])

    def test_the_net_is_made_once_for_a_bench(self):
        made = []

        def counted():
            made.append(1)
            return Net()

        with mock.patch("pipebench.benches.Net", counted):
            ask(nets(1), [0], nets(1), nets(2))
            self.assertEqual(len(made), 1)
            ask(nets(65))
            self.assertEqual(len(made), 1)


if __name__ == "__main__":
    unittest.main()
