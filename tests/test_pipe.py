"""The pipe, tick by tick, with its places worked out by hand."""

import unittest

from pipebench.pipes import Pipe, empty_pipe, seen, tick
from pipebench.worlds import World
from tests.helper import (
    HALT, RET, add, addi, bnz, bz, jal, jr, ld, ldh, ldi, own, shown, st, trap,
)

NOP = addi(0, 0, 0)


class Belt:
    """A pipe and a world with words from an address on."""

    def __init__(self, words, at=0, registers=(), line=()):
        self.pipe = Pipe()
        self.world = World()
        self.pipe.fetching = at
        self.line = line
        self.ticks = 0
        self.lay(at, words)
        for number, value in dict(registers).items():
            self.pipe.registers[number] = value

    def lay(self, at, words):
        self.world.memory[at:at + len(words)] = words

    def tick(self, many=1):
        """What was done at each of the ticks."""
        done = []
        for k in range(many):
            done.append(tick(self.pipe, self.world, 1 if self.ticks in self.line else 0)[0])
            self.ticks += 1
        return done

    def places(self):
        p = self.pipe
        return (p.fetching, p.in_read, p.in_reckon, p.in_memory, p.in_put)

    def state(self):
        p = self.pipe
        return (self.places(), list(p.registers), p.may, p.origin, p.cause, p.halted, list(self.world.memory),
                [list(row) for row in self.world.waiting], list(self.world.to_tell))


class Flow(unittest.TestCase):
    def test_five_at_once(self):
        w = [ldi(1, 5), ldi(2, 7), add(3, 1, 2), add(4, 3, 1), add(5, 1, 2), NOP]
        belt = Belt(w)
        self.assertEqual(belt.places(), (0, None, None, None, None))
        self.assertEqual(belt.tick(), [0])
        self.assertEqual(belt.places(), (1, (0, w[0]), None, None, None))
        self.assertEqual(belt.tick(), [0])
        self.assertEqual(belt.places(), (2, (1, w[1]), (0, w[0], 0, 0), None, None))
        self.assertEqual(belt.tick(), [0])
        self.assertEqual(belt.places(), (3, (2, w[2]), (1, w[1], 0, 0), (0, w[0], 5, 0), None))
        self.assertEqual(belt.tick(), [1])
        # r1 is what goes to put, r2 what's reckoned.
        self.assertEqual(belt.places(), (4, (3, w[3]), (2, w[2], 5, 7), (1, w[1], 7, 0), (1, 5)))
        self.assertEqual(belt.pipe.registers, [0] * 8)
        self.assertEqual(belt.tick(), [1])
        # r3 is what's reckoned, r1 what put has.
        self.assertEqual(belt.places(), (5, (4, w[4]), (3, w[3], 12, 5), (2, w[2], 12, 7), (2, 7)))
        self.assertEqual(belt.pipe.registers, [0, 5, 0, 0, 0, 0, 0, 0])
        self.assertEqual(belt.tick(), [1])
        # r1 is the register's, r2 what put has.
        self.assertEqual(belt.places(), (6, (5, w[5]), (4, w[4], 5, 7), (3, w[3], 17, 5), (3, 12)))
        self.assertEqual(belt.pipe.registers, [0, 5, 7, 0, 0, 0, 0, 0])

    def test_what_is_seen_at_each_tick(self):
        belt = Belt([ldi(1, 5), ldi(2, 7), add(3, 1, 2)], at=10)
        rows = []
        for k in range(7):
            rows.append(seen(belt.pipe))
            belt.tick()
        self.assertEqual(rows[:4], [shown(pc=10)] * 4)
        self.assertEqual(rows[4:], [
            shown({1: 5}, pc=11), shown({1: 5, 2: 7}, pc=12), shown({1: 5, 2: 7, 3: 12}, pc=13)])

    def test_s_and_v_of_the_kinds(self):
        rows = [
            (add(3, 1, 2), 1000, 700, 1700), (addi(3, 1, -1), 1000, 0, 999), (ldi(3, -2), 0, 0, 65534),
            (ldh(1, 2), 1000, 0, 2 * 256 + 232), (ld(3, 1, 4), 1000, 0, 1004), (st(2, 1, 4), 1000, 700, 1004),
            (bz(1, 4), 1000, 0, 0), (bnz(4, 4), 0, 0, 0), (jal(3, 4), 0, 0, 21), (jr(3, 1, 4), 1000, 0, 21),
            (trap(4), 0, 0, 0), (RET, 0, 0, 0), (HALT, 0, 0, 0), (own("from", 1), 0, 0, 0),
            (own("back", 1), 1000, 0, 1000), (own("let", 2), 700, 0, 700), (own("may", 1), 0, 0, 0),
            # What's no instruction reads nothing and is of no kind.
            (65535, 0, 0, 0), ((1 << 12) | 5, 0, 0, 0), ((4 << 12) | (1 << 9) | 511, 0, 0, 0),
            ((13 << 12) | (1 << 9) | 8 | 2, 0, 0, 0), (trap(8), 0, 0, 0), (RET + 1, 0, 0, 0), (HALT + 1, 0, 0, 0),
        ]
        for word, x, y, v in rows:
            with self.subTest(word=hex(word)):
                belt = Belt([word], at=20, registers={0: 3, 1: 1000, 2: 700})
                belt.tick(2)
                self.assertEqual(belt.pipe.in_reckon, (20, word, x, y))
                belt.tick()
                self.assertEqual(belt.pipe.in_memory, (20, word, v, y))

    def test_fetching_goes_from_65535_to_0(self):
        belt = Belt([ldi(1, 5)], at=0)
        belt.pipe.fetching = 65535
        belt.tick(2)
        self.assertEqual(belt.places(), (1, (0, ldi(1, 5)), (65535, 0, 0, 0), None, None))

    def test_fetching_from_the_last_word_outside(self):
        belt = Belt([ldi(1, 5)], at=65519)
        belt.world.waiting[0].append(ldi(2, 9))
        belt.tick(2)
        self.assertEqual(belt.places(), (65521, (65520, 0), (65519, ldi(1, 5), 0, 0), None, None))
        self.assertEqual(belt.world.waiting[0], [ldi(2, 9)])


class Sources(unittest.TestCase):
    def value(self, words):
        """What r2 becomes by the last word, and all of them are done without waiting."""
        belt = Belt(words, registers={1: 100})
        self.assertEqual(belt.tick(len(words) + 3), [0, 0, 0] + [1] * len(words))
        return seen(belt.pipe)[5 + 2]

    def test_reckon_counts_first(self):
        self.assertEqual(self.value([ldi(1, 1), ldi(1, 2), ldi(1, 3), addi(2, 1, 0)]), 3)

    def test_what_goes_to_put_counts_before_put(self):
        self.assertEqual(self.value([ldi(1, 1), ldi(1, 2), NOP, addi(2, 1, 0)]), 2)

    def test_what_put_has_counts_before_the_register(self):
        self.assertEqual(self.value([ldi(1, 1), NOP, NOP, addi(2, 1, 0)]), 1)

    def test_the_register_counts_last(self):
        self.assertEqual(self.value([NOP, NOP, NOP, addi(2, 1, 0)]), 100)
        self.assertEqual(self.value([ldi(1, 1), NOP, NOP, NOP, addi(2, 1, 0)]), 1)

    def test_what_stands_in_reckon_and_writes_nothing_gives_nothing(self):
        self.assertEqual(self.value([st(1, 1, 31), addi(2, 1, 0)]), 100)
        self.assertEqual(self.value([bz(1, 31), addi(2, 1, 0)]), 100)
        self.assertEqual(self.value([own("back", 1), addi(2, 1, 0)]), 100)

    def test_a_load_in_memory_gives_what_it_reads(self):
        belt = Belt([ld(1, 0, 20), NOP, addi(2, 1, 0)], registers={1: 100})
        belt.world.memory[20] = 44
        self.assertEqual(belt.tick(6), [0, 0, 0, 1, 1, 1])
        self.assertEqual(seen(belt.pipe)[5 + 2], 44)

    def test_both_values_from_different_sources(self):
        self.assertEqual(self.value([ldi(1, 9), ldi(3, 4), add(2, 1, 3)]), 13)
        self.assertEqual(self.value([ldi(1, 9), ldi(3, 4), add(2, 3, 1)]), 13)
        self.assertEqual(self.value([ldi(3, 9), NOP, ldi(1, 4), add(2, 3, 1)]), 13)

    def test_jal_and_jr_give_next(self):
        belt = Belt([jal(1, 1), 0, addi(2, 1, 0)])
        belt.tick(6)
        self.assertEqual(seen(belt.pipe), shown({1: 1, 2: 1}, pc=3))
        belt = Belt([jr(1, 3, 2), 0, addi(2, 1, 0)])
        belt.tick(7)
        self.assertEqual(seen(belt.pipe), shown({1: 1, 2: 1}, pc=3))


class Waiting(unittest.TestCase):
    def test_places_of_a_wait(self):
        w = [ld(1, 0, 20), add(2, 1, 1), NOP, NOP]
        belt = Belt(w)
        belt.world.memory[20] = 44
        belt.tick(2)
        self.assertEqual(belt.places(), (2, (1, w[1]), (0, w[0], 0, 0), None, None))
        belt.tick()
        self.assertEqual(belt.places(), (2, (1, w[1]), None, (0, w[0], 20, 0), None))
        belt.tick()
        self.assertEqual(belt.places(), (3, (2, w[2]), (1, w[1], 44, 44), None, (1, 44)))
        belt.tick()
        self.assertEqual(belt.places(), (4, (3, w[3]), (2, w[2], 0, 0), (1, w[1], 88, 44), None))
        self.assertEqual(belt.pipe.registers[1], 44)

    def done(self, words, many):
        belt = Belt(words, registers={2: 8, 5: 30})
        return belt.tick(many)

    def test_each_that_reads_waits(self):
        readers = [add(2, 1, 3), add(2, 3, 1), (1 << 12) | (1 << 6), (1 << 12) | (1 << 3), addi(2, 1, 0), ldh(1, 7),
                   ld(2, 1, 0), st(2, 1, 31), st(1, 2, 31), bz(1, 0), bnz(1, 0), bz(1, -1), bnz(1, -1), jr(2, 1, 0),
                   own("back", 1), own("let", 1)]
        for late in (ld(1, 0, 20), own("from", 1), own("cause", 1), own("may", 1)):
            for word in readers:
                with self.subTest(late=hex(late), word=hex(word)):
                    self.assertEqual(self.done([late, word], 6), [0, 0, 0, 1, 0, 1])

    def test_one_that_does_not_read_it_does_not_wait(self):
        others = [add(1, 2, 3), addi(1, 2, 0), ldi(1, 64), ldh(2, 64), ld(1, 2, 0), st(2, 3, 31), bz(2, 64),
                  jal(1, 64), jr(1, 2, 0), trap(1), RET, HALT, own("from", 1), own("may", 1), own("back", 2),
                  (1 << 12) | (1 << 6) | 3, (4 << 12) | (1 << 9) | 256, (13 << 12) | (1 << 9) | 5, 65535]
        for late in (ld(1, 0, 20), own("from", 1)):
            for word in others:
                with self.subTest(late=hex(late), word=hex(word)):
                    self.assertEqual(self.done([late, word], 5), [0, 0, 0, 1, 1])

    def test_what_does_not_write_late_is_not_waited_for(self):
        for word in (add(1, 2, 3), ldi(1, 5), ldh(1, 5), own("back", 1), own("let", 1), st(1, 5, 0), bnz(1, 5)):
            with self.subTest(word=hex(word)):
                self.assertEqual(self.done([word, addi(1, 1, 0)], 5), [0, 0, 0, 1, 1])

    def test_one_further_away_does_not_wait(self):
        self.assertEqual(self.done([ld(1, 0, 20), NOP, add(1, 1, 1)], 6), [0, 0, 0, 1, 1, 1])

    def test_a_row_of_loads_each_of_the_last(self):
        belt = Belt([ld(1, 1, 10), ld(1, 1, 10), ld(1, 1, 10)], registers={1: 0})
        belt.world.memory[10] = 20
        belt.world.memory[30] = 40
        belt.world.memory[50] = 60
        self.assertEqual(belt.tick(8), [0, 0, 0, 1, 0, 1, 0, 1])
        self.assertEqual(seen(belt.pipe), shown({1: 60}, pc=3))

    def test_own_state_is_as_it_was_before_the_tick(self):
        belt = Belt([own("back", 1), own("from", 2), own("let", 1), own("may", 3), own("let", 0), own("may", 4)],
                    registers={1: 777})
        belt.tick(9)
        self.assertEqual(seen(belt.pipe), shown({1: 777, 2: 777, 3: 1, 4: 0}, pc=6, from_=777))


class Turning(unittest.TestCase):
    def test_places_of_jal(self):
        w = [NOP, jal(7, 5), ldi(1, 1), ldi(1, 2)]
        belt = Belt(w)
        belt.lay(7, [ldi(2, 3)])
        belt.tick(2)
        self.assertEqual(belt.places(), (2, (1, w[1]), (0, NOP, 0, 0), None, None))
        belt.tick()
        self.assertEqual(belt.places(), (7, None, (1, w[1], 0, 0), (0, NOP, 0, 0), None))
        belt.tick()
        self.assertEqual(belt.places(), (8, (7, ldi(2, 3)), None, (1, w[1], 2, 0), (0, 0)))
        self.assertEqual(belt.tick(3), [1, 0, 1])
        self.assertEqual(seen(belt.pipe), shown({2: 3, 7: 2}, pc=8))

    def test_turned_and_taken(self):
        for word, value in ((bz(1, -3), 0), (bnz(1, -3), 5)):
            belt = Belt([ldi(2, 3), NOP], at=10, registers={1: value})
            belt.lay(12, [word, ldi(3, 1)])
            belt.pipe.fetching = 12
            self.assertEqual(belt.tick(6), [0, 0, 0, 1, 0, 1])
            self.assertEqual(seen(belt.pipe), shown({1: value, 2: 3}, pc=11))

    def test_turned_and_not_taken(self):
        for word, value in ((bz(1, -3), 5), (bnz(1, -3), 0)):
            belt = Belt([word, ldi(3, 1)], at=12, registers={1: value})
            belt.tick(3)
            self.assertEqual(belt.places(), (13, None, None, (12, word, 0, 0), None))
            self.assertEqual(belt.tick(4), [1, 0, 0, 1])
            self.assertEqual(seen(belt.pipe), shown({1: value, 3: 1}, pc=14))

    def test_not_turned_and_not_taken(self):
        for word, value in ((bz(1, 3), 5), (bnz(1, 3), 0)):
            belt = Belt([word, ldi(3, 1)], at=12, registers={1: value})
            self.assertEqual(belt.tick(5), [0, 0, 0, 1, 1])
            self.assertEqual(seen(belt.pipe), shown({1: value, 3: 1}, pc=14))

    def test_not_turned_and_taken(self):
        for word, value in ((bz(1, 3), 0), (bnz(1, 3), 5)):
            w = [word, ldi(3, 1), ldi(3, 2), ldi(3, 3), ldi(4, 4)]
            belt = Belt(w, at=12, registers={1: value})
            belt.tick(2)
            self.assertEqual(belt.places(), (14, (13, w[1]), (12, word, value, 0), None, None))
            belt.tick()
            self.assertEqual(belt.places(), (16, None, None, (12, word, 0, 0), None))
            self.assertEqual(belt.tick(4), [1, 0, 0, 1])
            self.assertEqual(seen(belt.pipe), shown({1: value, 4: 4}, pc=17))

    def test_i9_where_the_sign_turns(self):
        # 255 doesn't turn, -256 and -1 do.
        for i9, done in ((255, [1, 1]), (-256, [1, 0]), (-1, [1, 0])):
            for word in (bz(1, i9), bnz(2, i9)):
                belt = Belt([word], at=400, registers={1: 5})
                belt.tick(3)
                self.assertEqual(belt.tick(2), done)

    def test_jr(self):
        w = [jr(7, 1, 3), ldi(2, 1), ldi(2, 2)]
        belt = Belt(w, at=12, registers={1: 40})
        belt.lay(43, [ldi(3, 9)])
        belt.tick(3)
        self.assertEqual(belt.places(), (43, None, None, (12, w[0], 13, 0), None))
        self.assertEqual(belt.tick(4), [1, 0, 0, 1])
        self.assertEqual(seen(belt.pipe), shown({1: 40, 3: 9, 7: 13}, pc=44))

    def test_jr_to_its_own_next_is_another_way_too(self):
        belt = Belt([jr(7, 1, 0), NOP], at=12, registers={1: 13})
        self.assertEqual(belt.tick(7), [0, 0, 0, 1, 0, 0, 1])

    def test_jal_to_its_own_next_turns_too(self):
        belt = Belt([jal(7, 0), NOP], at=12)
        self.assertEqual(belt.tick(6), [0, 0, 0, 1, 0, 1])

    def test_one_that_waits_turns_behind_that(self):
        w = [ld(1, 0, 20), bz(1, -1)]
        belt = Belt(w)
        belt.tick(3)
        self.assertEqual(belt.places(), (2, (1, w[1]), None, (0, w[0], 20, 0), None))
        belt.tick()
        self.assertEqual(belt.places(), (1, None, (1, w[1], 0, 0), None, (1, 0)))


class Stores(unittest.TestCase):
    NEW = ldi(5, 77)

    def belt(self, target):
        """A store of NEW to 10 + target, with four that follow."""
        words = [st(1, 2, target), ldi(3, 1), ldi(3, 2), ldi(3, 3), ldi(3, 4)]
        return Belt(words, at=10, registers={1: self.NEW, 2: 10})

    def test_into_reckon_read_and_fetch(self):
        for target in (1, 2, 3):
            with self.subTest(target=target):
                belt = self.belt(target)
                belt.tick(3)
                self.assertEqual([belt.pipe.in_reckon[0], belt.pipe.in_read[0], belt.pipe.fetching], [11, 12, 13])
                self.assertEqual(belt.tick(), [1])
                self.assertEqual(belt.places(), (11, None, None, None, None))
                self.assertEqual(belt.tick(target + 3), [0, 0, 0] + [1] * target)
                self.assertEqual(seen(belt.pipe)[5 + 5], 77)
                self.assertEqual(seen(belt.pipe)[5 + 3], target - 1)

    def test_just_beyond_fetch(self):
        belt = self.belt(4)
        self.assertEqual(belt.tick(8), [0, 0, 0, 1, 1, 1, 1, 1])
        self.assertEqual(seen(belt.pipe)[5:], [0, self.NEW, 10, 3, 0, 77, 0, 0])

    def test_into_its_own_address(self):
        belt = self.belt(0)
        self.assertEqual(belt.tick(5), [0, 0, 0, 1, 1])
        self.assertEqual(belt.world.memory[10], self.NEW)

    def test_an_empty_place_has_no_address(self):
        # Behind st a jal that turns: read is empty, though 0 would be its address.
        belt = Belt([st(1, 2, 0), jal(3, 5)], at=10, registers={1: self.NEW, 2: 0})
        belt.tick(3)
        self.assertEqual(belt.places()[:3], (17, None, (11, jal(3, 5), 0, 0)))
        belt.tick()
        self.assertEqual(belt.pipe.fetching, 18)
        self.assertEqual(belt.world.memory[0], self.NEW)

    def test_where_a_turn_leads(self):
        belt = Belt([st(1, 2, 7), jal(3, 5)], at=10, registers={1: self.NEW, 2: 10})
        self.assertEqual(belt.tick(4), [0, 0, 0, 1])
        self.assertEqual(belt.places(), (11, None, None, None, None))
        self.assertEqual(belt.tick(6), [0, 0, 0, 1, 0, 1])
        self.assertEqual(seen(belt.pipe)[5 + 5], 77)

    def test_outside_where_fetching_is(self):
        belt = Belt([st(1, 2, 0)], at=65518, registers={1: 5, 2: 65520})
        self.assertEqual(belt.tick(4), [0, 0, 0, 1])
        self.assertEqual(belt.places(), (65519, None, None, None, None))
        self.assertEqual(belt.world.to_tell, [(0, 5)])

    def test_what_is_stored_just_before_is_loaded(self):
        belt = Belt([st(1, 2, 0), ld(3, 2, 0)], registers={1: 5, 2: 300})
        self.assertEqual(belt.tick(5), [0, 0, 0, 1, 1])
        self.assertEqual(seen(belt.pipe), shown({1: 5, 2: 300, 3: 5}, pc=2))


class GoingOn(unittest.TestCase):
    def test_trap(self):
        w = [trap(3), ldi(1, 1), ldi(2, 2), ldi(3, 3)]
        belt = Belt(w, at=50)
        self.assertEqual(belt.tick(4), [0, 0, 0, 1])
        self.assertEqual(belt.places(), (2, None, None, None, None))
        self.assertEqual(seen(belt.pipe), shown(pc=2, from_=51, cause=19))
        self.assertEqual(belt.tick(4), [0, 0, 0, 1])

    def test_no_instruction(self):
        belt = Belt([65535, ldi(1, 1), ldi(2, 2), ldi(3, 3)], at=50)
        self.assertEqual(belt.tick(4), [0, 0, 0, 1])
        self.assertEqual(belt.places(), (2, None, None, None, None))
        self.assertEqual(seen(belt.pipe), shown(pc=2, from_=50, cause=2))

    def test_ret(self):
        belt = Belt([own("back", 1), RET, ldi(1, 1), ldi(2, 2), ldi(3, 3)], at=50, registers={1: 900})
        self.assertEqual(belt.tick(5), [0, 0, 0, 1, 1])
        self.assertEqual(belt.places(), (900, None, None, None, None))
        self.assertEqual(seen(belt.pipe), shown({1: 900}, pc=900, may=1, from_=900))

    def test_halt_and_ticks_of_a_halted_pipe(self):
        belt = Belt([ldi(1, 4), HALT, ldi(1, 1), ldi(2, 2), ldi(3, 3)], at=50, line=range(4, 40))
        belt.pipe.may = 0
        self.assertEqual(belt.tick(5), [0, 0, 0, 1, 1])
        self.assertEqual(belt.places(), (51, None, None, None, None))
        self.assertEqual(belt.pipe.registers[1], 4)
        belt.pipe.may = 1
        before = belt.state()
        self.assertEqual(belt.tick(9), [0] * 9)
        self.assertEqual(belt.state(), before)
        self.assertEqual(seen(belt.pipe), shown({1: 4}, pc=51, may=1, halted=1))

    def test_what_stood_in_put_gets_to_its_register_in_any_case(self):
        for word in (trap(1), 65535, RET, HALT):
            belt = Belt([ldi(1, 4), word])
            belt.tick(5)
            self.assertEqual(belt.places()[1:], (None, None, None, None))
            self.assertEqual(belt.pipe.registers[1], 4)

    def test_what_goes_to_put_does_though_another_way_is_gone(self):
        belt = Belt([ldi(1, 4), jr(7, 2, 0), NOP], at=50, registers={2: 90})
        belt.tick(4)
        self.assertEqual(belt.places(), (90, None, None, (51, jr(7, 2, 0), 52, 0), (1, 4)))
        belt.tick()
        self.assertEqual(belt.pipe.registers[1], 4)
        self.assertEqual(belt.pipe.in_put, (7, 52))

    def test_put_is_empty_where_nothing_goes_to_it(self):
        for word in (st(1, 2, 0), bz(1, 9), own("back", 1), own("let", 1)):
            belt = Belt([word], at=50, registers={1: 3, 2: 900})
            belt.tick(4)
            self.assertIsNone(belt.pipe.in_put)


class Interrupts(unittest.TestCase):
    W = [own("let", 1), ldi(2, 2), ldi(3, 3), ldi(4, 4), ldi(5, 5)]

    def belt(self, line):
        return Belt(self.W, at=50, registers={1: 1}, line=line)

    def test_with_may_and_the_line_up(self):
        belt = self.belt([5])
        self.assertEqual(belt.tick(5), [0, 0, 0, 1, 1])
        self.assertEqual(seen(belt.pipe), shown({1: 1, 2: 2}, pc=52, may=1))
        self.assertEqual(belt.tick(), [1])
        self.assertEqual(belt.places(), (2, None, None, None, None))
        self.assertEqual(seen(belt.pipe), shown({1: 1, 2: 2}, pc=2, from_=52, cause=1))
        self.assertEqual(belt.tick(4), [0, 0, 0, 1])

    def test_may_is_as_before_the_tick(self):
        # At tick 3 let is done, the line being up: may was 0 still.
        belt = self.belt([3])
        self.assertEqual(belt.tick(5), [0, 0, 0, 1, 1])
        self.assertEqual(seen(belt.pipe), shown({1: 1, 2: 2}, pc=52, may=1))
        # At tick 4 it's 1.
        belt = self.belt([4])
        belt.tick(5)
        self.assertEqual(seen(belt.pipe), shown({1: 1}, pc=2, from_=51, cause=1))

    def test_the_line_up_with_may_0(self):
        belt = Belt([ldi(1, 1), ldi(2, 2)], line=range(100))
        self.assertEqual(belt.tick(5), [0, 0, 0, 1, 1])
        self.assertEqual(seen(belt.pipe), shown({1: 1, 2: 2}, pc=2))

    def test_the_line_up_while_memory_is_empty(self):
        belt = Belt([ldi(1, 1), ldi(2, 2)], line=[0, 1, 2])
        belt.pipe.may = 1
        self.assertEqual(belt.tick(5), [0, 0, 0, 1, 1])
        self.assertEqual(seen(belt.pipe), shown({1: 1, 2: 2}, pc=2, may=1))

    def test_it_comes_before_what_the_word_would_do(self):
        for word in (65535, trap(3), RET, HALT, st(1, 1, 0), ld(2, 3, 0), jr(1, 1, 0), own("let", 1), own("back", 1)):
            with self.subTest(word=hex(word)):
                belt = Belt([word], at=50, registers={1: 900, 3: 65520}, line=[3])
                belt.pipe.may = 1
                belt.world.waiting[0].append(8)
                self.assertEqual(belt.tick(4), [0, 0, 0, 1])
                self.assertEqual(belt.places(), (2, None, None, None, None))
                self.assertEqual(seen(belt.pipe), shown({1: 900, 3: 65520}, pc=2, from_=50, cause=1))
                self.assertEqual(belt.world.waiting[0], [8])
                self.assertEqual(belt.world.memory[900], 0)

    def test_at_the_target_of_a_branch(self):
        belt = Belt([jal(7, 9), NOP], at=50, line=[5])
        belt.pipe.may = 1
        self.assertEqual(belt.tick(6), [0, 0, 0, 1, 0, 1])
        self.assertEqual(seen(belt.pipe), shown({7: 51}, pc=2, from_=60, cause=1))

    def test_at_65535(self):
        belt = Belt([], at=0, line=[3])
        belt.pipe.fetching = 65535
        belt.pipe.may = 1
        belt.tick(4)
        self.assertEqual(seen(belt.pipe), shown(pc=2, from_=65535, cause=1))


class WhoCountsFirst(unittest.TestCase):
    def test_memory_before_reckon_and_read(self):
        for word, pc in ((trap(0), 2), (65535, 2), (RET, 0), (HALT, 50), (st(1, 2, 1), 51)):
            for behind in (jr(7, 3, 0), bz(4, 9), bnz(4, -9)):
                for last in (jal(6, 30), NOP):
                    with self.subTest(word=hex(word), behind=hex(behind), last=hex(last)):
                        belt = Belt([word, behind, last], at=50, registers={1: 4, 2: 50, 3: 700})
                        self.assertEqual(belt.tick(4), [0, 0, 0, 1])
                        self.assertEqual(belt.places(), (pc, None, None, None, None))

    def test_memory_before_a_wait(self):
        belt = Belt([trap(0), ld(1, 2, 0), add(3, 1, 1)], at=50)
        belt.tick(4)
        self.assertEqual(belt.places(), (2, None, None, None, None))

    def test_memory_before_a_turn(self):
        belt = Belt([trap(0), NOP, jal(6, 30)], at=50)
        belt.tick(4)
        self.assertEqual(belt.places(), (2, None, None, None, None))

    def test_reckon_before_read(self):
        for word, pc in ((jr(7, 3, 0), 700), (bz(4, 9), 60)):
            belt = Belt([word, jal(6, 30)], at=50, registers={3: 700})
            belt.tick(3)
            self.assertEqual(belt.pipe.fetching, pc)
            self.assertIsNone(belt.pipe.in_read)
            self.assertIsNone(belt.pipe.in_reckon)

    def test_a_turn_taken_back_by_reckon(self):
        # bnz turned in read, and in reckon it's seen that the manual doesn't go there.
        belt = Belt([bnz(4, -9), jal(6, 30)], at=50)
        belt.tick(3)
        self.assertEqual(belt.places()[:3], (51, None, None))


class Emptied(unittest.TestCase):
    def test_has_just_what_is_seen(self):
        words = [ldi(1, 5), ldi(2, 7), add(3, 1, 2), ld(4, 0, 3), add(5, 4, 4), jal(6, 3), NOP, NOP, NOP, st(1, 2, 31)]
        for ticks in range(16):
            belt = Belt(words)
            belt.tick(ticks)
            before = seen(belt.pipe)
            empty_pipe(belt.pipe)
            self.assertEqual(seen(belt.pipe), before)
            self.assertEqual(belt.places(), (before[0], None, None, None, None))
            self.assertEqual(belt.pipe.registers, before[5:])

    def test_pc_is_the_last_place_that_is_not_empty(self):
        belt = Belt([jal(1, 9), 0], at=50)
        belt.tick(2)
        self.assertEqual(belt.places()[:4], (60, None, (50, jal(1, 9), 0, 0), None))
        self.assertEqual(seen(belt.pipe)[0], 50)
        belt.tick()
        self.assertEqual([belt.pipe.in_memory[0], seen(belt.pipe)[0]], [50, 50])
        belt.tick()
        self.assertEqual([belt.pipe.in_memory, belt.pipe.in_reckon[0], seen(belt.pipe)[0]], [None, 60, 60])


if __name__ == "__main__":
    unittest.main()
