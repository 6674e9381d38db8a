"""Promise 5: what each row of the table of orders does, and when it is done."""

import unittest

from asking import LONG_MOST, WORD_MOST, ask, drum_but_zeros, last, order, peek, poke, prepared, run, told

HALF = 5 * 10 ** 19


class OrderTest(unittest.TestCase):
    def check(self, a, d, pokes, word, expected):
        """Behind the order word at 15, begun with A a and D d, are told over, N, T, A, D."""
        with self.subTest(a=a, d=d, pokes=pokes, word=word):
            answered = ask(*prepared(a, d), told(), *pokes, poke(15, word), run(1), told())
            self.assertEqual(answered[8], [0, 0, 0, 15, 15, a, d])
            self.assertEqual(answered[-2], [0, 1, 0])
            self.assertEqual(answered[-1], [0, 0] + expected)

    def check_word(self, code, a, operand, expected):
        """With the operand at 20, read at tick 20; over, T, A, D are told."""
        over, tick, new_a, new_d = expected
        self.check(a, 909, [poke(20, operand)], order(code, 20, 30), [over, 30, tick, new_a, new_d])


class TestSums(OrderTest):
    def test_nop(self):
        self.check(-5, 6, [], order(1, 0, 30), [0, 30, 18, -5, 6])
        self.check(-5, 6, [], order(1, 9999, 1999), [0, 1999, 18, -5, 6])

    def test_lda(self):
        for word in (-WORD_MOST, -7, 0, 7, WORD_MOST):
            self.check_word(10, 10 ** 15, word, (0, 22, word, word))

    def test_ldn(self):
        for word in (-WORD_MOST, -7, 0, 7, WORD_MOST):
            self.check_word(11, 10 ** 15, word, (0, 22, -word, word))

    def test_add(self):
        self.check_word(12, 10, -7, (0, 23, 3, -7))
        self.check_word(12, LONG_MOST - 3, 3, (0, 23, LONG_MOST, 3))
        self.check_word(12, LONG_MOST, 1, (1, 23, 0, 1))
        self.check_word(12, LONG_MOST, 5, (1, 23, 4, 5))
        self.check_word(12, -LONG_MOST, -3, (1, 23, -2, -3))

    def test_sub(self):
        self.check_word(13, 10, -7, (0, 23, 17, -7))
        self.check_word(13, -LONG_MOST + 3, 3, (0, 23, -LONG_MOST, 3))
        self.check_word(13, -LONG_MOST, 1, (1, 23, 0, 1))
        self.check_word(13, -LONG_MOST, 5, (1, 23, -4, 5))
        self.check_word(13, LONG_MOST, -3, (1, 23, 2, -3))

    def test_adm(self):
        self.check_word(14, 10, -7, (0, 23, 17, -7))
        self.check_word(14, 10, 7, (0, 23, 17, 7))
        self.check_word(14, LONG_MOST, -2, (1, 23, 1, -2))

    def test_sbm(self):
        self.check_word(15, 10, -7, (0, 23, 3, -7))
        self.check_word(15, 10, 7, (0, 23, 3, 7))
        self.check_word(15, -LONG_MOST, -2, (1, 23, -1, -2))

    def test_adu(self):
        self.check_word(16, 5, 3, (0, 23, 30000000005, 3))
        self.check_word(16, 5, -3, (0, 23, -29999999995, -3))
        self.check_word(16, WORD_MOST, WORD_MOST, (0, 23, LONG_MOST, WORD_MOST))
        self.check_word(16, LONG_MOST, 1, (1, 23, WORD_MOST, 1))

    def test_sbu(self):
        self.check_word(17, 5, 3, (0, 23, -29999999995, 3))
        self.check_word(17, 5, -3, (0, 23, 30000000005, -3))
        self.check_word(17, -LONG_MOST, 2, (1, 23, -(2 * 10 ** 10 - 1), 2))

    def test_ldd(self):
        self.check_word(18, LONG_MOST, -7, (0, 21, LONG_MOST, -7))

    def test_over_stays(self):
        calls = prepared(LONG_MOST, 0) + [
            poke(15, order(12, 20, 23)), poke(20, 9), poke(23, order(12, 20, 30)), poke(30, order(10, 20, 31)), run(3),
        ]
        self.assertEqual(last(*calls, told()), [0, 0, 1, 31, 102, 9, 9])


class TestProducts(OrderTest):
    def test_mul(self):
        self.check_word(20, 120000000034, -205, (0, 39, -6970, -205))
        self.check_word(20, -50000000003, -4, (0, 33, 12, -4))
        self.check_word(20, LONG_MOST, WORD_MOST, (0, 205, WORD_MOST * WORD_MOST, WORD_MOST))
        self.check_word(20, 7, 0, (0, 25, 0, 0))
        self.check_word(20, 7 * 10 ** 10, 5, (0, 35, 0, 5))

    def test_div(self):
        self.check_word(21, 100, 7, (0, 37, 14, 2))
        self.check_word(21, -100, 7, (0, 37, -14, -2))
        self.check_word(21, 100, -7, (0, 37, -14, 2))
        self.check_word(21, -100, -7, (0, 37, 14, -2))
        self.check_word(21, 3, 7, (0, 27, 0, 3))
        self.check_word(21, 0, 7, (0, 27, 0, 0))
        self.check_word(21, -1, 1, (0, 29, -1, 0))
        self.check_word(21, 1, -1, (0, 29, -1, 0))
        self.check_word(21, -1, -1, (0, 29, 1, 0))

    def test_the_greatest_quotient(self):
        self.check_word(21, 7 * 10 ** 10 - 1, 7, (0, 207, WORD_MOST, 6))
        self.check_word(21, 7 * 10 ** 10 - 1, -7, (0, 207, -WORD_MOST, 6))
        self.check_word(21, -(7 * 10 ** 10 - 1), 7, (0, 207, -WORD_MOST, -6))

    def test_div_that_does_not_fit(self):
        self.check_word(21, 100, 0, (1, 27, 100, 0))
        self.check_word(21, 0, 0, (1, 27, 0, 0))
        self.check_word(21, 7 * 10 ** 10, 7, (1, 27, 7 * 10 ** 10, 7))
        self.check_word(21, 7 * 10 ** 10, -7, (1, 27, 7 * 10 ** 10, -7))
        self.check_word(21, -7 * 10 ** 10, 7, (1, 27, -7 * 10 ** 10, 7))
        self.check_word(21, LONG_MOST, WORD_MOST, (1, 27, LONG_MOST, WORD_MOST))


class TestStores(OrderTest):
    def check_store(self, code, a, d, stored):
        self.check(a, d, [poke(20, 1)], order(code, 20, 30), [0, 30, 21, a, d])
        self.assertEqual(last(*prepared(a, d), poke(20, 1), poke(15, order(code, 20, 30)), run(1), peek(20)), [0, stored])

    def test_stl(self):
        self.check_store(30, -120000000034, 6, -34)
        self.check_store(30, LONG_MOST, 6, WORD_MOST)
        self.check_store(30, -50000000000, 6, 0)
        self.check_store(30, -1, 6, -1)

    def test_stu(self):
        self.check_store(31, -120000000034, 6, -12)
        self.check_store(31, -LONG_MOST, 6, -WORD_MOST)
        self.check_store(31, -34, 6, 0)

    def test_std(self):
        self.check_store(32, 17, -WORD_MOST, -WORD_MOST)

    def test_a_store_changes_one_word(self):
        calls = prepared(17, 6) + [poke(15, order(30, 20, 30))]
        before = drum_but_zeros(*calls)
        before[20] = 17
        self.assertEqual(drum_but_zeros(*calls, run(1)), before)

    def test_a_stored_order_is_run(self):
        calls = prepared(order(1, 0, 77), 0) + [poke(15, order(30, 21, 21)), run(2)]
        self.assertEqual(last(*calls, told()), [0, 0, 0, 77, 64, order(1, 0, 77), 0])

    def test_an_order_stores_over_itself(self):
        calls = prepared(5, 0) + [poke(15, order(30, 15, 30)), run(1)]
        self.assertEqual(ask(*calls, told(), peek(15))[-2:], [[0, 0, 0, 30, 56, 5, 0], [0, 5]])


class TestShifts(OrderTest):
    def check_shift(self, code, far, a, over, shifted):
        self.check(a, 6, [], order(code, far, 30), [over, 30, 20 + far, shifted, 6])

    def test_shl(self):
        self.check_shift(40, 3, 12, 0, 12000)
        self.check_shift(40, 0, -12, 0, -12)
        self.check_shift(40, 19, 1, 0, 10 ** 19)
        self.check_shift(40, 20, 0, 0, 0)

    def test_shl_that_does_not_fit(self):
        self.check_shift(40, 20, 5, 1, 0)
        self.check_shift(40, 20, -LONG_MOST, 1, 0)
        self.check_shift(40, 19, 12, 1, 2 * 10 ** 19)
        self.check_shift(40, 19, -12, 1, -2 * 10 ** 19)
        self.check_shift(40, 1, LONG_MOST, 1, LONG_MOST - 9)

    def test_shr(self):
        self.check_shift(41, 3, 12999, 0, 12)
        self.check_shift(41, 3, -12999, 0, -12)
        self.check_shift(41, 0, -12, 0, -12)
        self.check_shift(41, 20, LONG_MOST, 0, 0)
        self.check_shift(41, 20, -LONG_MOST, 0, 0)
        self.check_shift(41, 19, -LONG_MOST, 0, -9)

    def test_srr(self):
        self.check_shift(42, 3, 12499, 0, 12)
        self.check_shift(42, 3, 12500, 0, 13)
        self.check_shift(42, 3, -12499, 0, -12)
        self.check_shift(42, 3, -12500, 0, -13)
        self.check_shift(42, 0, -13, 0, -13)
        self.check_shift(42, 20, HALF - 1, 0, 0)
        self.check_shift(42, 20, HALF, 0, 1)
        self.check_shift(42, 20, -HALF, 0, -1)
        self.check_shift(42, 1, LONG_MOST, 0, 10 ** 19)

    def test_sct(self):
        self.check(123, 6, [], order(43, 0, 30), [0, 30, 37, 123 * 10 ** 17, 17])
        self.check(-1, 6, [], order(43, 0, 30), [0, 30, 39, -10 ** 19, 19])
        self.check(0, 6, [], order(43, 0, 30), [0, 30, 40, 0, 20])
        self.check(LONG_MOST, 6, [], order(43, 0, 30), [0, 30, 20, LONG_MOST, 0])
        self.check(10 ** 19 - 1, 6, [], order(43, 9999, 30), [0, 30, 21, LONG_MOST - 9, 1])


class TestJumps(OrderTest):
    def test_bmi(self):
        self.check(-1, 6, [], order(50, 700, 30), [0, 700, 19, -1, 6])
        self.check(0, 6, [], order(50, 700, 30), [0, 30, 19, 0, 6])
        self.check(1, 6, [], order(50, 700, 30), [0, 30, 19, 1, 6])

    def test_bnz(self):
        self.check(-1, 6, [], order(51, 1999, 30), [0, 1999, 19, -1, 6])
        self.check(0, 6, [], order(51, 700, 30), [0, 30, 19, 0, 6])
        self.check(1, 6, [], order(51, 700, 30), [0, 700, 19, 1, 6])

    def test_bov_without_over(self):
        self.check(1, 6, [], order(52, 700, 30), [0, 30, 19, 1, 6])

    def test_bov_with_over(self):
        calls = prepared(LONG_MOST, 0) + [
            poke(15, order(12, 20, 23)), poke(20, 1), poke(23, order(52, 700, 30)), run(1), told(), run(1), told(),
        ]
        answered = ask(*calls)
        self.assertEqual(answered[-3], [0, 0, 1, 23, 23, 0, 1])
        self.assertEqual(answered[-1], [0, 0, 0, 700, 27, 0, 1])

    def test_bmi_and_bnz_leave_over(self):
        for code in (50, 51):
            calls = prepared(-LONG_MOST, 0) + [
                poke(15, order(12, 20, 23)), poke(20, -2), poke(23, order(code, 700, 30)), run(2), told(),
            ]
            self.assertEqual(last(*calls), [0, 0, 1, 700, 27, -1, -2])


class TestLookUp(OrderTest):
    def check_found(self, d, start, pokes, over, a, tick):
        self.check(-8, d, pokes, order(60, start, 30), [over, 30, tick, a, d])

    def test_found(self):
        self.check_found(50, 1030, [poke(1030, 10), poke(1031, 49), poke(1032, 50)], 0, 2, 34)
        self.check_found(50, 1030, [poke(1030, 51), poke(1031, 50)], 0, 0, 32)
        self.check_found(0, 1030, [], 0, 0, 32)
        self.check_found(-5, 1030, [poke(1030, -6), poke(1031, -5)], 0, 1, 33)

    def test_found_around_the_band(self):
        self.check_found(50, 1030, [poke(1003, 60)], 0, 13, 45)
        self.check_found(50, 1030, [poke(1000, 60)], 0, 10, 42)
        self.check_found(50, 1030, [poke(1039, 60), poke(1000, 60)], 0, 9, 41)
        self.check_found(50, 1030, [poke(1029, 60)], 0, 39, 71)
        self.check_found(50, 1039, [poke(1000, 60)], 0, 1, 42)
        self.check_found(50, 1000, [poke(1039, 60)], 0, 39, 81)

    def test_not_found(self):
        self.check_found(50, 1030, [], 1, -8, 71)
        self.check_found(50, 1030, [poke(999, 60), poke(1040, 60), poke(1005, 49)], 1, -8, 71)


class TestWhen(OrderTest):
    def test_the_word_is_waited_for(self):
        # Taken apart at 18: place 18 is in time, place 17 comes by at 57 again.
        self.check(5, 6, [poke(1018, 4)], order(18, 1018, 30), [0, 30, 19, 5, 4])
        self.check(5, 6, [poke(1017, 4)], order(18, 1017, 30), [0, 30, 58, 5, 4])
        self.check(5, 6, [poke(1999, 4)], order(18, 1999, 30), [0, 30, 40, 5, 4])
        self.check(5, 6, [], order(32, 1017, 30), [0, 30, 58, 5, 6])
        self.check(5, 0, [], order(60, 1017, 30), [0, 30, 59, 0, 0])

    def test_the_others_wait_for_nothing(self):
        self.check(5, 6, [], order(51, 17, 30), [0, 17, 19, 5, 6])
        self.check(5, 6, [], order(40, 0, 30), [0, 30, 20, 5, 6])

    def test_the_order_is_waited_for(self):
        for address, tick in ((16, 59), (1015, 58), (14, 57), (1999, 42), (0, 43), (18, 21), (17, 60)):
            with self.subTest(address=address):
                calls = prepared(5, 6) + [poke(15, order(1, 0, address)), poke(address, order(1, 0, 3)), run(2)]
                self.assertEqual(last(*calls, told()), [0, 0, 0, 3, tick, 5, 6])

    def test_ticks_go_on_in_the_next_run(self):
        calls = prepared(5, 6) + [poke(15, order(1, 0, 15))]
        self.assertEqual(last(*calls, run(3), told()), last(*calls, run(1), run(0), run(2), told()))
        self.assertEqual(last(*calls, run(3), told()), [0, 0, 0, 15, 98, 5, 6])


if __name__ == "__main__":
    unittest.main()
