"""Each row of the table of instructions, with answers worked out by hand."""

import unittest

from tests.helper import (
    HALT, RET, Manual, addi, alu, ask, bnz, bz, cmp, feed, get, go, jal, jr, ld, ldh, ldi, own, put, seen, set_, shown,
    st, three, till, told, trap,
)

AT = 100


def once(word, registers=(), at=AT, before=()):
    """What's seen behind one instruction at that place."""
    calls = list(before) + [put(at, [word])]
    calls += [set_(number, value) for number, value in dict(registers).items()]
    return ask(*calls, go(at), till(1, 4), seen())[-1]


def r3(word, x, y):
    """What r3 becomes from r1 being x and r2 being y."""
    got = once(word, {1: x, 2: y})
    assert got == shown({1: x, 2: y, 3: got[5 + 3]}, pc=AT + 1), got
    return got[5 + 3]


class KindZero(unittest.TestCase):
    def check(self, name, rows):
        for x, y, value in rows:
            with self.subTest(name=name, x=x, y=y):
                self.assertEqual(r3(alu(name, 3, 1, 2), x, y), value)

    def test_add(self):
        self.check("add", [(5, 7, 12), (65535, 1, 0), (65535, 65535, 65534), (32768, 32768, 0), (32767, 1, 32768)])

    def test_sub(self):
        self.check("sub", [(7, 5, 2), (5, 7, 65534), (0, 1, 65535), (0, 65535, 1), (32768, 1, 32767)])

    def test_and(self):
        self.check("and", [(0b1100, 0b1010, 0b1000), (65535, 43690, 43690), (65280, 255, 0)])

    def test_or(self):
        self.check("or", [(0b1100, 0b1010, 0b1110), (43690, 21845, 65535), (0, 0, 0)])

    def test_xor(self):
        self.check("xor", [(0b1100, 0b1010, 0b0110), (65535, 21845, 43690), (777, 777, 0)])

    def test_shl(self):
        self.check("shl", [(3, 0, 3), (3, 4, 48), (1, 15, 32768), (3, 15, 32768), (65535, 8, 65280)])
        self.check("shl", [(3, 16, 3), (3, 17, 6), (3, 31, 32768), (3, 65535, 32768), (3, 65520, 3)])

    def test_shr(self):
        self.check("shr", [(48, 0, 48), (48, 4, 3), (49, 4, 3), (65535, 15, 1), (32768, 15, 1), (32767, 15, 0)])
        self.check("shr", [(48, 16, 48), (48, 18, 12), (65535, 31, 1), (65535, 65535, 1)])

    def test_sar(self):
        self.check("sar", [(48, 4, 3), (32767, 15, 0), (32767, 1, 16383)])
        self.check("sar", [(32768, 0, 32768), (32768, 1, 49152), (32768, 15, 65535), (65535, 1, 65535)])
        self.check("sar", [(65533, 1, 65534), (32768, 16, 32768), (32769, 17, 49152), (40000, 65535, 65535)])

    def test_the_same_register_everywhere(self):
        self.assertEqual(once(alu("add", 4, 4, 4), {4: 40000}), shown({4: 14464}, pc=AT + 1))

    def test_every_register_can_be_written_and_read(self):
        for d in range(8):
            for a in range(8):
                values = {k: 10 + k for k in range(8)}
                want = dict(values)
                want[d] = 10 + a + 10 + (7 - a)
                self.assertEqual(once(alu("add", d, a, 7 - a), values), shown(want, pc=AT + 1))


class KindOne(unittest.TestCase):
    def check(self, name, rows):
        for x, y, value in rows:
            with self.subTest(name=name, x=x, y=y):
                self.assertEqual(r3(cmp(name, 3, 1, 2), x, y), value)

    def test_lts(self):
        self.check("lts", [(1, 2, 1), (2, 1, 0), (2, 2, 0), (65535, 0, 1), (0, 65535, 0)])
        self.check("lts", [(32768, 32767, 1), (32767, 32768, 0), (32768, 65535, 1), (65535, 32768, 0)])

    def test_ltu(self):
        self.check("ltu", [(1, 2, 1), (2, 1, 0), (2, 2, 0), (65535, 0, 0), (0, 65535, 1), (32767, 32768, 1)])

    def test_eq(self):
        self.check("eq", [(5, 5, 1), (5, 6, 0), (0, 65535, 0), (65535, 65535, 1)])


class ValuesInTheWord(unittest.TestCase):
    def test_addi(self):
        rows = [(10, 0, 10), (10, 31, 41), (10, 32, 65514), (10, -32, 65514), (10, -1, 9), (40, -32, 8)]
        rows += [(65535, 1, 0), (65530, 31, 25), (0, -1, 65535)]
        for x, i6, value in rows:
            with self.subTest(x=x, i6=i6):
                self.assertEqual(r3(addi(3, 1, i6), x, 0), value)

    def test_addi_to_itself(self):
        self.assertEqual(once(addi(1, 1, 5), {1: 6}), shown({1: 11}, pc=AT + 1))

    def test_ldi(self):
        for i9, value in [(0, 0), (1, 1), (255, 255), (256, 65280), (-256, 65280), (-255, 65281), (-1, 65535)]:
            with self.subTest(i9=i9):
                self.assertEqual(r3(ldi(3, i9), 0, 0), value)

    def test_ldh(self):
        rows = [(0x1234, 0xAB, 0xAB34), (0x1234, 0, 0x34), (0xFFFF, 255, 0xFFFF), (0xFF00, 127, 0x7F00)]
        rows += [(0, 128, 0x8000), (255, 1, 0x1FF)]
        for own_, i8, value in rows:
            with self.subTest(own=own_, i8=i8):
                self.assertEqual(once(ldh(3, i8), {3: own_}), shown({3: value}, pc=AT + 1))


class MemoryAndOutside(unittest.TestCase):
    def test_ld(self):
        for x, i6, place in [(500, 0, 500), (500, 31, 531), (500, -32, 468), (500, 32, 468), (500, -1, 499)]:
            with self.subTest(x=x, i6=i6):
                got = once(ld(3, 1, i6), {1: x}, before=[put(place, [4321])])
                self.assertEqual(got, shown({1: x, 3: 4321}, pc=AT + 1))

    def test_ld_around_memorys_ends(self):
        got = once(ld(3, 1, 31), {1: 65515}, before=[put(10, [77])])
        self.assertEqual(got, shown({1: 65515, 3: 77}, pc=AT + 1))
        got = once(ld(3, 1, -32), {1: 31}, before=[feed(15, [88])])
        self.assertEqual(got, shown({1: 31, 3: 88}, pc=AT + 1))
        got = once(ld(3, 1, -32), {1: 15}, before=[put(65519, [99])])
        self.assertEqual(got, shown({1: 15, 3: 99}, pc=AT + 1))

    def test_ld_into_the_register_of_its_address(self):
        self.assertEqual(once(ld(1, 1, 2), {1: 300}, before=[put(302, [9])]), shown({1: 9}, pc=AT + 1))

    def test_st(self):
        for x, i6, place in [(500, 0, 500), (500, 31, 531), (500, -32, 468), (500, 32, 468), (500, -1, 499)]:
            with self.subTest(x=x, i6=i6):
                got = ask(put(AT, [st(3, 1, i6)]), set_(1, x), set_(3, 999), go(AT), till(1, 4), seen(),
                          get(place - 1, 3), told())
                self.assertEqual(got[-3:], [shown({1: x, 3: 999}, pc=AT + 1), [3, 0, 999, 0], [0]])

    def test_st_of_the_register_of_its_address(self):
        got = ask(put(AT, [st(1, 1, 2)]), set_(1, 300), go(AT), till(1, 4), get(302, 1))
        self.assertEqual(got[-1], [1, 300])

    def test_st_outside(self):
        got = ask(put(AT, [st(3, 1, -5)]), set_(1, 4), set_(3, 999), go(AT), till(1, 4), told(), told())
        self.assertEqual(got[-2:], [[1, 15, 999], [0]])


class Ways(unittest.TestCase):
    def test_bz(self):
        for value, i9, pc in [(0, 10, 111), (0, 255, 356), (0, -1, 100), (0, -256, 65381), (0, 256, 65381)]:
            with self.subTest(value=value, i9=i9):
                self.assertEqual(once(bz(3, i9), {3: value}), shown({3: value}, pc=pc))
        for value in (1, 255, 256, 32768, 65535):
            for i9 in (10, 255, -1, -256):
                with self.subTest(value=value, i9=i9):
                    self.assertEqual(once(bz(3, i9), {3: value}), shown({3: value}, pc=101))

    def test_bnz(self):
        for value in (1, 255, 256, 32768, 65535):
            for i9, pc in [(10, 111), (255, 356), (-1, 100), (-256, 65381)]:
                with self.subTest(value=value, i9=i9):
                    self.assertEqual(once(bnz(3, i9), {3: value}), shown({3: value}, pc=pc))
        for i9 in (10, 255, -1, -256):
            with self.subTest(i9=i9):
                self.assertEqual(once(bnz(3, i9)), shown(pc=101))

    def test_jal(self):
        for i9, pc in [(0, 101), (1, 102), (255, 356), (-1, 100), (-256, 65381)]:
            with self.subTest(i9=i9):
                self.assertEqual(once(jal(6, i9)), shown({6: 101}, pc=pc))

    def test_jr(self):
        for x, i6, pc in [(500, 0, 500), (500, 31, 531), (500, -32, 468), (65535, 1, 0), (0, -1, 65535)]:
            with self.subTest(x=x, i6=i6):
                self.assertEqual(once(jr(6, 1, i6), {1: x}), shown({1: x, 6: 101}, pc=pc))

    def test_jr_by_the_register_that_it_writes(self):
        self.assertEqual(once(jr(1, 1, 3), {1: 500}), shown({1: 101}, pc=503))

    def test_next_behind_the_last_word_of_memory(self):
        self.assertEqual(once(jal(6, 20), at=65519), shown({6: 65520}, pc=4))
        self.assertEqual(once(bz(6, 15), at=65519), shown(pc=65535))
        self.assertEqual(once(bz(6, 16), at=65519), shown(pc=0))


class TrapsAndOwnState(unittest.TestCase):
    def test_trap(self):
        for k in range(8):
            with self.subTest(k=k):
                self.assertEqual(once(trap(k)), shown(pc=2, from_=101, cause=16 + k))

    def test_trap_takes_may_away_and_leaves_the_rest(self):
        got = ask(put(AT, [own("let", 1), trap(3)]), set_(1, 1), set_(7, 9), go(AT), till(1, 9), seen(), till(1, 9),
                  seen())
        self.assertEqual(got[5], shown({1: 1, 7: 9}, pc=101, may=1))
        self.assertEqual(got[7], shown({1: 1, 7: 9}, pc=2, from_=102, cause=19))

    def test_trap_at_memorys_end(self):
        self.assertEqual(once(trap(0), at=65519), shown(pc=2, from_=65520, cause=16))

    def test_ret(self):
        self.assertEqual(once(RET), shown(pc=0, may=1))
        got = ask(put(AT, [own("back", 1), RET]), set_(1, 40000), go(AT), till(2, 9), seen())
        self.assertEqual(got[-1], shown({1: 40000}, pc=40000, may=1, from_=40000))

    def test_halt(self):
        self.assertEqual(once(HALT, {5: 5}), shown({5: 5}, pc=100, halted=1))

    def test_halt_leaves_may_from_and_cause(self):
        got = ask(put(0, [trap(5), 0, own("let", 1), HALT]), set_(1, 1), go(0), till(3, 30), seen())
        self.assertEqual(got[-1], shown({1: 1}, pc=3, may=1, from_=1, cause=21, halted=1))

    def test_from_and_cause(self):
        program = [trap(6), 0, own("from", 3), own("cause", 4)]
        got = ask(put(0, program), till(3, 30), seen())
        self.assertEqual(got[-1], shown({3: 1, 4: 22}, pc=4, from_=1, cause=22))

    def test_back(self):
        for value in (0, 1, 65535):
            with self.subTest(value=value):
                self.assertEqual(once(own("back", 3), {3: value}), shown({3: value}, pc=101, from_=value))

    def test_let_takes_the_last_bit(self):
        for value, may in [(0, 0), (1, 1), (2, 0), (3, 1), (65534, 0), (65535, 1)]:
            with self.subTest(value=value):
                self.assertEqual(once(own("let", 3), {3: value}), shown({3: value}, pc=101, may=may))

    def test_let_takes_may_away_too(self):
        got = ask(put(AT, [own("let", 1), own("let", 2)]), set_(1, 1), set_(2, 2), go(AT), till(2, 9), seen())
        self.assertEqual(got[-1], shown({1: 1, 2: 2}, pc=102))

    def test_may(self):
        got = ask(put(AT, [own("let", 1), own("may", 4), own("let", 0), own("may", 1)]), set_(1, 1), set_(4, 9),
                  go(AT), till(2, 9), seen(), till(2, 9), seen())
        self.assertEqual(got[-3], shown({1: 1, 4: 1}, pc=102, may=1))
        self.assertEqual(got[-1], shown({4: 1}, pc=104))


class NoInstruction(unittest.TestCase):
    WORDS = [three(1, f, 3, 1, 2) for f in (3, 4, 5, 6, 7)]
    WORDS += [(4 << 12) | 256, (4 << 12) | (3 << 9) | 511]
    WORDS += [(11 << 12) | 8, (11 << 12) | 64, (11 << 12) | 2048, (11 << 12) | 4095]
    WORDS += [(12 << 12) | 1, (12 << 12) | 2048, (12 << 12) | 4095]
    WORDS += [(13 << 12) | 5, (13 << 12) | 6, (13 << 12) | 7, (13 << 12) | (3 << 9) | 5]
    WORDS += [(13 << 12) | (1 << 6), (13 << 12) | (1 << 3), (13 << 12) | (4 << 6) | 2, (13 << 12) | (4 << 3) | 3]
    WORDS += [(14 << 12) | 1, (14 << 12) | 2048, (14 << 12) | 4095]
    WORDS += [15 << 12, (15 << 12) | 1, (15 << 12) | 2048, 65535]

    def test_each_traps_from_its_own_place(self):
        values = {k: 1000 + k for k in range(8)}
        for word in self.WORDS:
            with self.subTest(word=hex(word)):
                self.assertEqual(once(word, values), shown(values, pc=2, from_=AT, cause=2))

    def test_it_takes_may_away(self):
        got = ask(put(AT, [own("let", 1), 65535]), set_(1, 1), go(AT), till(2, 9), seen())
        self.assertEqual(got[-1], shown({1: 1}, pc=2, from_=101, cause=2))

    def test_the_words_beside_them_are_instructions(self):
        words = [three(1, 2, 3, 1, 2), (4 << 12) | 255, (11 << 12) | 7, 12 << 12, (13 << 12) | 4, 14 << 12]
        for word in words:
            with self.subTest(word=hex(word)):
                self.assertNotEqual(once(word)[3], 2)

    def test_every_seventh_word_against_the_manual(self):
        for word in range(0, 65536, 7):
            machine = Manual()
            machine.memory[AT] = word
            machine.r = [0, 1, 32768, 65535, 300, 40000, 17, 5]
            machine.pc = AT
            machine.step(0)
            self.assertEqual(once(word, dict(enumerate([0, 1, 32768, 65535, 300, 40000, 17, 5]))), machine.seen())


class Outside(unittest.TestCase):
    def test_a_word_fetched_outside_is_add_r0_r0_r0(self):
        got = ask(set_(0, 3), go(65520), till(1, 4), seen())
        self.assertEqual(got[-1], shown({0: 6}, pc=65521))


if __name__ == "__main__":
    unittest.main()
