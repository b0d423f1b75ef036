"""The calls place, trace, counts, asks and cells; answers worked out by hand."""

import unittest

from tests.helper import (
    HALT, KIND_0, KIND_1, PLACES, RET, add, addi, alu, ask, asks, bnz, bz, cells, cmp, counts, feed, get, go, jal,
    jr, ld, ldh, ldi, manual, name_of, nets, new, own, place, put, reads_of, same, save, seen, set_, shown, st, three,
    tick, till, told, trace, trap,
)

NOP = addi(0, 0, 0)
EMPTY = 65536


def rows_of(answer):
    """A trace's answer, six numbers a tick."""
    assert len(answer) % 6 == 0
    return [tuple(answer[k:k + 6]) for k in range(0, len(answer), 6)]


class Place(unittest.TestCase):
    W = [ldi(1, 5), ldi(2, 7), add(3, 1, 2), add(4, 3, 1), add(5, 1, 2)]

    def test_at_first(self):
        self.assertEqual(ask(*PLACES), [[1, 0], [0], [0], [0], [0]])

    def test_one_behind_another(self):
        w = self.W
        belt = [
            [[1, 1], [1, 0, w[0]], [0], [0], [0]],
            [[1, 2], [1, 1, w[1]], [1, 0, w[0], 0, 0], [0], [0]],
            [[1, 3], [1, 2, w[2]], [1, 1, w[1], 0, 0], [1, 0, w[0], 5, 0], [0]],
            [[1, 4], [1, 3, w[3]], [1, 2, w[2], 5, 7], [1, 1, w[1], 7, 0], [1, 1, 5]],
            [[1, 5], [1, 4, w[4]], [1, 3, w[3], 12, 5], [1, 2, w[2], 12, 7], [1, 2, 7]],
            [[1, 6], [1, 5, 0], [1, 4, w[4], 5, 7], [1, 3, w[3], 17, 5], [1, 3, 12]],
        ]
        for ticks, places in enumerate(belt):
            with self.subTest(ticks=ticks + 1):
                self.assertEqual(ask(put(0, w), tick(ticks + 1), *PLACES)[2:], places)

    def test_each_place_empty_while_others_are_not(self):
        # A wait empties reckon, then memory; a turn empties read; a store leaves put empty.
        w = [ld(1, 0, 20), add(2, 1, 1), NOP]
        self.assertEqual(ask(put(0, w), tick(3), *PLACES)[2:],
                         [[1, 2], [1, 1, w[1]], [0], [1, 0, w[0], 20, 0], [0]])
        self.assertEqual(ask(put(0, w), tick(4), *PLACES)[2:],
                         [[1, 3], [1, 2, NOP], [1, 1, w[1], 0, 0], [0], [1, 1, 0]])
        w = [NOP, jal(7, 5)]
        self.assertEqual(ask(put(0, w), tick(3), *PLACES)[2:],
                         [[1, 7], [0], [1, 1, w[1], 0, 0], [1, 0, NOP, 0, 0], [0]])
        w = [st(1, 2, 30), ldi(3, 3), ldi(4, 4), ldi(5, 5)]
        self.assertEqual(ask(put(0, w), set_(1, 9), set_(2, 8), tick(3), place(3), tick(1), *PLACES)[4:],
                         [[1, 0, w[0], 38, 9], [1, 0], [1, 4], [1, 3, w[3]], [1, 2, w[2], 0, 0], [1, 1, w[1], 3, 0],
                          [0]])

    def test_zeros_that_stand_there_are_no_empty_place(self):
        self.assertEqual(ask(tick(4), *PLACES),
                         [[1, 0], [1, 4], [1, 3, 0], [1, 2, 0, 0, 0], [1, 1, 0, 0, 0], [1, 0, 0]])

    def test_halted(self):
        begin = [put(0, [ldi(1, 4), HALT, NOP, NOP, NOP]), tick(5)]
        self.assertEqual(ask(*begin, *PLACES)[1:], [[2, 1], [0], [0], [0], [0], [0]])
        self.assertEqual(ask(*begin, tick(3), set_(2, 2), place(0), go(9), *PLACES)[4:],
                         [[0], [0], [1, 9], [0], [0], [0], [0]])

    def test_i_of_4_and_5(self):
        self.assertEqual(ask(place(4), place(5), place(6), place(65535)), [[0], [-1], [-1], [-1]])
        self.assertEqual(ask(put(0, [HALT]), tick(4), place(4), place(5)), [[1], [1, 1], [0], [-1]])

    def test_what_is_no_instruction_reads_nothing(self):
        values = [set_(k, 100 + k) for k in range(8)]
        for word in (three(1, 3, 1, 2, 3), (4 << 12) | (1 << 9) | 511, trap(8), RET + 64, (13 << 12) | (1 << 9) | 7,
                     (13 << 12) | (1 << 9) | 8 | 2, HALT + 1, 65535):
            with self.subTest(word=hex(word)):
                got = ask(*values, put(50, [word]), go(50), tick(2), place(2), tick(1), place(3))
                self.assertEqual([got[-3], got[-1]], [[1, 50, word, 0, 0], [1, 50, word, 0, 0]])

    def test_v_of_all_that_is_no_instruction(self):
        words = [word for word in range(65536) if name_of(word) is None]
        # Of ops 1, 4, 11 to 15.
        self.assertEqual(len(words), 5 * 512 + 2048 + 4088 + 4095 + (4096 - 40) + 4095 + 4096)
        values = [set_(k, 65535 - k) for k in range(8)]
        for start in range(0, len(words), 70):
            some = words[start:start + 70]
            calls = []
            for word in some:
                calls += [put(50, [word]), go(50), tick(3), place(3)]
            self.assertEqual(ask(*values, *calls)[8 + 3::4], [[1, 50, word, 0, 0] for word in some])

    def test_v_of_ldh_beside_it(self):
        # With bit 8 0 they're instructions, and x is r1.
        for i8 in (0, 1, 128, 255):
            got = ask(set_(1, 0x1234), put(50, [ldh(1, i8)]), go(50), tick(3), place(3))
            self.assertEqual(got[-1], [1, 50, ldh(1, i8), i8 * 256 + 0x34, 0])


class Trace(unittest.TestCase):
    # 10 is where jr leads, as r3 is 10.
    PROGRAM = [ld(1, 0, 20), add(2, 1, 1), jal(7, 3), 0, 0, 0, jr(6, 3, 0), NOP, NOP, NOP, HALT, NOP, NOP]
    BEGIN = [put(0, PROGRAM), set_(3, 10)]
    ROWS = [
        (0, EMPTY, EMPTY, EMPTY, 0, 0),
        (1, 0, EMPTY, EMPTY, 0, 0),
        (2, 1, 0, EMPTY, 0, 3),
        (2, 1, EMPTY, 0, 1, 0),
        (3, 2, 1, EMPTY, 0, 4),
        (6, EMPTY, 2, 1, 1, 0),
        (7, 6, EMPTY, 2, 1, 0),
        (8, 7, 6, EMPTY, 0, 2),
        (10, EMPTY, EMPTY, 6, 1, 0),
        (11, 10, EMPTY, EMPTY, 0, 0),
        (12, 11, 10, EMPTY, 0, 0),
        (13, 12, 11, 10, 1, 1),
        (EMPTY, EMPTY, EMPTY, EMPTY, 0, 5),
        (EMPTY, EMPTY, EMPTY, EMPTY, 0, 5),
    ]

    def test_each_number(self):
        got = ask(*self.BEGIN, trace(14))[-1]
        self.assertEqual(rows_of(got), self.ROWS)

    def test_in_parts(self):
        got = ask(*self.BEGIN, trace(3), trace(0), trace(1), tick(2), trace(8))
        self.assertEqual(got[2] + got[4], [number for row in self.ROWS[:4] for number in row])
        self.assertEqual(got[3], [])
        self.assertEqual(rows_of(got[6]), self.ROWS[6:14])

    def kinds(self, words, many, begin=(), ups=(), at=50):
        got = ask(put(at, words), *begin, go(at), trace(many, ups))[-1]
        return [row[5] for row in rows_of(got)]

    def test_kind_1(self):
        for word in (trap(3), 65535, RET, HALT):
            with self.subTest(word=hex(word)):
                self.assertEqual(self.kinds([word], 4), [0, 0, 0, 1])

    def test_kind_1_of_an_interrupt(self):
        begin = [set_(1, 1)]
        words = [own("let", 1), NOP, NOP]
        self.assertEqual(self.kinds(words, 6, begin, [4]), [0, 0, 0, 0, 1, 0])
        self.assertEqual(self.kinds(words, 6, begin, [5]), [0, 0, 0, 0, 0, 1])
        self.assertEqual(self.kinds(words, 6, begin, [0, 1, 2, 3]), [0] * 6)
        self.assertEqual(self.kinds([NOP, NOP], 6, begin, range(6)), [0] * 6)

    def test_kind_1_of_a_store(self):
        begin = [set_(2, 50), set_(1, NOP)]
        for target, kind in ((0, 0), (1, 1), (2, 1), (3, 1), (4, 0)):
            with self.subTest(target=target):
                self.assertEqual(self.kinds([st(1, 2, target), NOP, NOP, NOP, NOP], 4, begin), [0, 0, 0, kind])

    def test_kind_2(self):
        # r0 is 0, r1 is 1.
        begin = [set_(1, 1)]
        for word in (jr(7, 1, 0), bz(0, 9), bnz(1, 9), bz(0, 0)):
            with self.subTest(word=hex(word)):
                self.assertEqual(self.kinds([word, NOP, NOP], 4, begin), [0, 0, 2, 0])
        # Those that turned and shouldn't have.
        for word in (bz(1, -9), bnz(0, -9)):
            with self.subTest(word=hex(word)):
                self.assertEqual(self.kinds([word, NOP, NOP], 4, begin), [0, 4, 2, 0])

    def test_kind_4_and_the_right_way(self):
        begin = [set_(1, 1)]
        for word in (jal(7, 9), jal(7, -9), jal(7, 0), bz(0, -9), bnz(1, -9)):
            with self.subTest(word=hex(word)):
                self.assertEqual(self.kinds([word, NOP, NOP], 4, begin), [0, 4, 0, 0])
        for word in (bz(1, 9), bnz(0, 9)):
            with self.subTest(word=hex(word)):
                self.assertEqual(self.kinds([word, NOP, NOP], 4, begin), [0, 0, 0, 0])

    def test_kind_3(self):
        for late in (ld(2, 0, 0), own("from", 2), own("cause", 2), own("may", 2)):
            with self.subTest(late=hex(late)):
                self.assertEqual(self.kinds([late, add(3, 2, 2), NOP], 5), [0, 0, 3, 0, 0])
                self.assertEqual(self.kinds([late, add(2, 3, 3), NOP], 5), [0] * 5)

    def test_1_counts_before_2_3_and_4(self):
        for word in (trap(3), 65535, RET, HALT, st(1, 2, 1)):
            for behind in ([jr(7, 3, 0), NOP], [bz(0, 9), NOP], [jr(7, 3, 0), jal(6, 9)], [ld(4, 0, 0), add(5, 4, 4)],
                           [NOP, jal(6, 9)], [ld(4, 0, 0), bz(4, -9)]):
                with self.subTest(word=hex(word), behind=behind):
                    begin = [set_(2, 50), set_(1, 4)]
                    self.assertEqual(self.kinds([word] + behind, 4, begin)[3], 1)

    def test_2_counts_before_4(self):
        for word in (jr(7, 3, 0), bz(0, 9)):
            self.assertEqual(self.kinds([word, jal(6, 9)], 3), [0, 0, 2])

    def test_3_counts_before_4(self):
        self.assertEqual(self.kinds([ld(4, 0, 0), bz(4, -9)], 5), [0, 0, 3, 4, 0])

    def test_5_counts_before_all(self):
        self.assertEqual(self.kinds([HALT], 6, ups=range(6)), [0, 0, 0, 1, 5, 5])

    def test_n_of_0_64_and_65(self):
        got = ask(trace(0), trace(0, [0, 0]), trace(64), trace(65), trace(65, [1]), trace(65535), seen(), counts())
        self.assertEqual([got[0], got[1]], [[], []])
        self.assertEqual(len(got[2]), 384)
        self.assertEqual(rows_of(got[2])[-1], (63, 62, 61, 60, 1, 0))
        self.assertEqual(got[3:6], [[-1]] * 3)
        self.assertEqual(got[6:], [shown(pc=61), [64, 61, 0, 0, 0, 0]])

    def test_its_ticks_are_done(self):
        program = [own("let", 1), st(2, 7, 0), ld(3, 7, 1), add(4, 3, 3), st(4, 6, 0), jal(5, 1), 0, ldi(5, 5), HALT]
        begin = [put(0, program), set_(1, 1), set_(2, 22), set_(6, 300), set_(7, 65520), feed(1, [8, 9])]
        behind = [seen(), told(), get(300, 1), feed(1, []), counts(), *PLACES, cells()]
        for ups in ([], [5], [7]):
            for n in range(20):
                with self.subTest(ups=ups, n=n):
                    got = ask(*begin, trace(n, ups), *behind)
                    want = ask(*begin, tick(n, ups), *behind)
                    self.assertEqual(got[7:], want[7:])
                    self.assertEqual(sum([row[4] for row in rows_of(got[6])]), want[6][0])
        got = ask(*begin, trace(20), *behind)
        self.assertEqual(got[7:12], [
            shown({1: 1, 2: 22, 3: 8, 4: 16, 5: 5, 6: 300, 7: 65520}, pc=8, may=1, halted=1), [1, 0, 22], [1, 16],
            [1], [20, 8, 1, 0, 1, 1]])

    def test_ups_are_its_own(self):
        begin = [put(10, [own("let", 1), ldi(2, 2), ldi(3, 3)]), set_(1, 1), go(10), trace(4, [4])]
        self.assertEqual(ask(*begin, trace(2, [2, 900]), seen())[-1], shown({1: 1, 2: 2, 3: 3}, pc=13, may=1))
        got = ask(*begin, trace(2, [1, 1]), seen())
        self.assertEqual(got[-1], shown({1: 1, 2: 2}, pc=2, from_=12, cause=1))
        self.assertEqual(rows_of(got[-2]), [(14, 13, 12, 11, 1, 0), (15, 14, 13, 12, 1, 1)])


class Counts(unittest.TestCase):
    # 3 waits, 4 turns, 2 other ways, 1 going on; 13 things. The first is done at the 4th tick; behind it come
    # 2 + 1 ticks for each ld and add, 2 for each jal, 3 for each bz: the last at the 27th. So things are done at
    # 4 6 7 9 10 12, 13 15 17 19, 21 24, 27; a ld is waited for one tick before it's done, a jal turns two before, another
    # way is gone one before its bz is done.
    PROGRAM = [ld(1, 0, 60), add(2, 1, 1)] * 3 + [jal(7, 0)] * 4 + [bz(0, 0)] * 2 + [HALT]

    def test_at_first(self):
        self.assertEqual(ask(counts()), [[0] * 6])

    def test_each_number(self):
        for call in (tick(27), till(13, 100), till(99, 2000), trace(27)):
            with self.subTest(call=call):
                self.assertEqual(ask(put(0, self.PROGRAM), call, counts())[-1], [27, 13, 1, 2, 3, 4])

    def test_added_up_over_the_three_calls(self):
        got = ask(put(0, self.PROGRAM), tick(3), counts(), till(2, 50), counts(), trace(7), counts(), tick(8), counts(),
                  till(1, 2), counts(), trace(4), counts())
        self.assertEqual(got[2::2], [[3, 0, 0, 0, 1, 0], [6, 2, 0, 0, 2, 0], [13, 7, 0, 0, 3, 2], [21, 11, 0, 1, 3, 4],
                                     [23, 11, 0, 2, 3, 4], [27, 13, 1, 2, 3, 4]])

    def test_halted_ticks_count(self):
        got = ask(put(0, [HALT]), tick(4), counts(), tick(10), counts(), trace(5), counts(), till(3, 9), counts(),
                  tick(2000), counts())
        self.assertEqual(got[2::2], [[4, 1, 1, 0, 0, 0], [14, 1, 1, 0, 0, 0], [19, 1, 1, 0, 0, 0],
                                     [19, 1, 1, 0, 0, 0], [2019, 1, 1, 0, 0, 0]])

    def test_manual_same_and_nets_count_nothing(self):
        begin = [put(0, self.PROGRAM), tick(11), counts()]
        got = ask(*begin, manual(50), same(50), nets(50), counts())
        self.assertEqual(got[2], got[-1])
        self.assertEqual(got[2], [11, 5, 0, 0, 3, 1])

    def test_the_other_calls_count_nothing(self):
        others = [put(300, [1]), get(0, 9), set_(1, 1), go(0), feed(1, [1]), told(), tick(0), till(0, 9), till(9, 0), seen(),
                  place(1), trace(0), asks(0), cells(), save(1), tick(2001), till(1, 2001), trace(65)]
        got = ask(put(0, self.PROGRAM), tick(11), *others, counts())
        self.assertEqual(got[-1], [11, 5, 0, 0, 3, 1])

    def test_emptying_does_not_reset_and_new_does(self):
        got = ask(put(0, self.PROGRAM), tick(11), go(0), counts(), new(), counts(), tick(4), counts())
        self.assertEqual(got[3::2], [[11, 5, 0, 0, 3, 1], [0] * 6, [4, 1, 0, 0, 0, 0]])


class Asks(unittest.TestCase):
    def check(self, word, reads, writes, late, turns):
        with self.subTest(word=hex(word)):
            self.assertEqual(ask(asks(word)), [[len(reads)] + reads + [writes, late, turns]])

    def test_kinds_0_and_1(self):
        for name in KIND_0:
            self.check(alu(name, 1, 2, 3), [2, 3], 1, 0, 0)
        for name in KIND_1:
            self.check(cmp(name, 7, 6, 5), [6, 5], 7, 0, 0)
        self.check(add(4, 4, 4), [4, 4], 4, 0, 0)
        self.check(0, [0, 0], 0, 0, 0)

    def test_kinds_2_to_6(self):
        self.check(addi(1, 2, 31), [2], 1, 0, 0)
        self.check(addi(1, 2, -32), [2], 1, 0, 0)
        self.check(ldi(3, 255), [], 3, 0, 0)
        self.check(ldi(3, -256), [], 3, 0, 0)
        self.check(ldh(5, 255), [5], 5, 0, 0)
        self.check(ld(1, 2, -1), [2], 1, 1, 0)
        self.check(ld(6, 6, 0), [6], 6, 1, 0)
        self.check(st(1, 2, 5), [2, 1], 8, 0, 0)
        self.check(st(3, 3, 5), [3, 3], 8, 0, 0)

    def test_branches_forward_and_back(self):
        for build in (bz, bnz):
            for i9 in (0, 1, 255):
                self.check(build(6, i9), [6], 8, 0, 0)
            for i9 in (-1, -255, -256):
                self.check(build(6, i9), [6], 8, 0, 1)

    def test_kinds_9_and_10(self):
        for i9 in (0, 255, -1, -256):
            self.check(jal(5, i9), [], 5, 0, 1)
        for i6 in (0, 31, -32):
            self.check(jr(5, 4, i6), [4], 5, 0, 0)

    def test_kinds_11_12_and_14(self):
        for k in range(8):
            self.check(trap(k), [], 8, 0, 0)
        self.check(RET, [], 8, 0, 0)
        self.check(HALT, [], 8, 0, 0)

    def test_kind_13(self):
        for name in ("from", "cause", "may"):
            self.check(own(name, 3), [], 3, 1, 0)
        for name in ("back", "let"):
            self.check(own(name, 3), [3], 8, 0, 0)

    def test_no_instruction(self):
        words = [three(1, f, 3, 1, 2) for f in range(3, 8)]
        words += [(4 << 12) | 256, (4 << 12) | 511, (4 << 12) | (7 << 9) | 256]
        words += [(11 << 12) | 8, (11 << 12) | 16, (11 << 12) | 2048, (11 << 12) | 4095]
        words += [RET + 1, RET + 8, RET + 512, RET + 4095, HALT + 1, HALT + 8, HALT + 512, HALT + 4095]
        words += [(13 << 12) | 5, (13 << 12) | 6, (13 << 12) | 7, (13 << 12) | 8, (13 << 12) | 64, (13 << 12) | 504]
        words += [15 << 12, (15 << 12) | 1, 65535]
        for word in words:
            with self.subTest(word=hex(word)):
                self.assertEqual(ask(asks(word)), [[-4]])

    def test_every_word(self):
        for start in range(0, 65536, 256):
            words = range(start, start + 256)
            for word, answer in zip(words, ask(*[asks(word) for word in words])):
                name = name_of(word)
                self.assertEqual(answer == [-4], name is None)
                if name is not None:
                    self.assertEqual(answer[:-3], [len(reads_of(word))] + reads_of(word))


class Cells(unittest.TestCase):
    # Where each number's lowest bit is, counted by hand: 8 * 16; 16; 1 + 2 * 16; 1 + 4 * 16; 1 + 4 * 16; 1 + 3 + 16;
    # 1; 16; 5; 1.
    FETCH, READ, RECKON, MEMORY, PUT = 128, 144, 177, 242, 307
    MAY, FROM, CAUSE, HALTED = 327, 328, 344, 349

    def check(self, answer, bits):
        """The numbers of bits stand in the cells, by where they begin, and nothing else."""
        self.assertEqual(len(answer), 22)
        for number in answer[:-1]:
            self.assertLess(number, 65536)
        self.assertLess(answer[-1], 1 << 14)
        whole = sum([number << (16 * k) for k, number in enumerate(answer)])
        self.assertEqual(whole, sum([number << at for at, number in bits.items()]))

    def test_at_first(self):
        self.assertEqual(ask(cells()), [[0] * 22])

    def test_registers_and_fetch_each_in_a_number_of_its_own(self):
        values = [1, 32768, 65535, 4, 5, 6, 7, 40000]
        got = ask(*[set_(k, value) for k, value in enumerate(values)], go(12345), cells())
        self.assertEqual(got[-1], values + [12345] + [0] * 13)

    def test_read_alone(self):
        # The place's bit is the lowest of its first number, so all behind it is moved up by one.
        got = ask(put(0x8001, [HALT]), go(0x8001), tick(1), cells())
        self.assertEqual(got[-1], [0] * 8 + [0x8002, 1 + 2 * 0x0001, 1 + 2 * 0x6000, 1] + [0] * 10)

    def test_all_places_full(self):
        w = [ldi(6, 5), ldi(2, -7), add(3, 6, 2), add(4, 3, 6)]
        got = ask(put(1000, w), set_(7, 9), go(1000), tick(4), *PLACES, cells())
        self.assertEqual(got[4:9], [[1, 1004], [1, 1003, w[3]], [1, 1002, w[2], 5, 65529], [1, 1001, w[1], 65529, 0],
                                    [1, 6, 5]])
        self.check(got[-1], {
            7 * 16: 9, self.FETCH: 1004,
            self.READ: 1, self.READ + 1: 1003, self.READ + 17: w[3],
            self.RECKON: 1, self.RECKON + 1: 1002, self.RECKON + 17: w[2], self.RECKON + 33: 5,
            self.RECKON + 49: 65529,
            self.MEMORY: 1, self.MEMORY + 1: 1001, self.MEMORY + 17: w[1], self.MEMORY + 33: 65529,
            self.PUT: 1, self.PUT + 1: 6, self.PUT + 4: 5})

    def test_s_of_memory(self):
        w = [st(1, 2, 3)]
        got = ask(put(0, w), set_(1, 65535), set_(2, 777), tick(3), cells())
        self.check(got[-1], {
            16: 65535, 32: 777, self.FETCH: 3, self.READ: 1, self.READ + 1: 2, self.RECKON: 1, self.RECKON + 1: 1,
            self.MEMORY: 1, self.MEMORY + 17: w[0], self.MEMORY + 33: 780, self.MEMORY + 49: 65535})

    def test_v_of_what_is_no_instruction(self):
        for w in (16641, (4 << 12) | (7 << 9) | 511, three(1, 3, 3, 1, 2), 65535):
            got = ask(put(0, [w]), set_(7, 65535), tick(3), cells())
            self.check(got[-1], {
                7 * 16: 65535, self.FETCH: 3, self.READ: 1, self.READ + 1: 2, self.RECKON: 1, self.RECKON + 1: 1,
                self.MEMORY: 1, self.MEMORY + 17: w})

    def test_behind_a_trap(self):
        for k, cause in ((0, 16), (7, 23)):
            got = ask(put(499, [ldi(5, 1), trap(k), NOP, NOP]), go(499), tick(5), cells())
            self.check(got[-1], {5 * 16: 1, self.FETCH: 2, self.FROM: 501, self.CAUSE: cause})

    def test_may_and_halted(self):
        got = ask(put(0, [own("back", 1), RET]), put(60000, [HALT]), set_(1, 60000), tick(5), cells(), tick(3), cells(),
                  tick(1), cells(), tick(5), cells())
        self.check(got[4], {16: 60000, self.FETCH: 60000, self.MAY: 1, self.FROM: 60000})
        self.check(got[6], {16: 60000, self.FETCH: 60003, self.MAY: 1, self.FROM: 60000, self.READ: 1,
                            self.READ + 1: 60002, self.RECKON: 1, self.RECKON + 1: 60001, self.MEMORY: 1,
                            self.MEMORY + 1: 60000, self.MEMORY + 17: HALT})
        halted = {16: 60000, self.FETCH: 60000, self.MAY: 1, self.FROM: 60000, self.HALTED: 1}
        self.check(got[8], halted)
        self.check(got[10], halted)
        self.assertEqual(got[8][-1] >> 13, 1)

    def test_emptied(self):
        w = [ldi(6, 5), ldi(2, -7), add(3, 6, 2)]
        got = ask(put(0, w), tick(4), go(7), cells())
        self.check(got[-1], {6 * 16: 5, self.FETCH: 7})

    def test_a_wait_and_a_turn_leave_empty_places(self):
        w = [ld(1, 0, 20), add(2, 1, 1)]
        got = ask(put(0, w), tick(3), cells())
        self.check(got[-1], {self.FETCH: 2, self.READ: 1, self.READ + 1: 1, self.READ + 17: w[1],
                             self.MEMORY: 1, self.MEMORY + 17: w[0], self.MEMORY + 33: 20})
        w = [NOP, jal(7, 5)]
        got = ask(put(0, w), tick(3), cells())
        self.check(got[-1], {self.FETCH: 7, self.RECKON: 1, self.RECKON + 1: 1, self.RECKON + 17: w[1],
                             self.MEMORY: 1, self.MEMORY + 17: NOP})


if __name__ == "__main__":
    unittest.main()
