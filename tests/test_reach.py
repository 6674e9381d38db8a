"""Promise 8: reach."""

import unittest

from asking import (WORD_MOST, ask, everything, filled, image, last, new, order, place, poke, prepared, reach, reached,
                    rewind, run, told)

ONE_WORD = (10, 11, 12, 13, 14, 15, 16, 17, 18, 20, 21, 30, 31, 32)
NO_WORD = (1, 40, 41, 42, 43)
JUMPS = (50, 51, 52)
FAULTY = {
    2: (-1, -order(1, 0, 30), -order(10, 80, 30), -WORD_MOST),
    3: (order(2, 80, 30), order(19, 80, 30), order(22, 80, 30), order(33, 80, 30), order(44, 80, 30),
        order(53, 80, 30), order(61, 80, 30), order(69, 80, 30), order(72, 80, 30), order(99, 9999, 9999)),
    4: (order(1, 0, 2000), order(10, 80, 2000), order(10, 2000, 30), order(50, 2000, 30), order(50, 80, 2000),
        order(60, 2000, 30), order(60, 80, 9999), order(70, 80, 2000), order(71, 2000, 30), order(43, 0, 2000)),
    5: (order(40, 21, 30), order(41, 80, 30), order(42, 9999, 30)),
}


class TestOrders(unittest.TestCase):
    def test_a_new_machine(self):
        self.assertEqual(ask(reach()), [[0, 0, 1]])
        for start in (1, 777, 1999):
            self.assertEqual(ask(new(start), reach()), [[0], [0, start, 1]])

    def test_hlt_leads_nowhere(self):
        for word in (0, order(0, 80, 30), order(0, 9999, 9999)):
            self.assertEqual(reached(*image(5, {5: word})), {5: 1})

    def test_one_behind_another(self):
        words = {1999: order(1, 0, 7), 7: order(40, 20, 300), 300: order(43, 9999, 0), 0: order(1, 9999, 40)}
        self.assertEqual(last(*image(1999, words), reach()), [0, 0, 1, 7, 1, 40, 1, 300, 1, 1999, 1])

    def test_a_ring(self):
        self.assertEqual(reached(*image(3, {3: order(1, 0, 3)})), {3: 1})
        self.assertEqual(reached(*image(3, {3: order(1, 0, 9), 9: order(1, 0, 1), 1: order(1, 0, 9)})),
                         {1: 1, 3: 1, 9: 1})

    def test_both_ways_of_a_jump(self):
        for code in JUMPS:
            self.assertEqual(reached(*image(0, {0: order(code, 1999, 50)})), {0: 1, 50: 1, 1999: 1})
            self.assertEqual(reached(*image(0, {0: order(code, 0, 0)})), {0: 1})
            words = {0: order(code, 8, 9), 8: order(code, 0, 4), 9: order(code, 4, 5), 5: order(1, 0, 0)}
            self.assertEqual(reached(*image(0, words)), {0: 1, 4: 1, 5: 1, 8: 1, 9: 1})

    def test_only_from_the_next_order_on(self):
        words = {0: order(1, 0, 1), 1: order(1, 0, 2), 2: order(1, 0, 3)}
        self.assertEqual(reached(*image(0, words), run(2)), {2: 1, 3: 1})
        self.assertEqual(reached(*image(0, words), run(9)), {3: 1})
        self.assertEqual(reached(*image(0, words), run(9), rewind()), {3: 1})

    def test_a_long_way(self):
        # So many orders behind one another, and so many jumps of which both ways are open.
        lines = "".join(["n%d: BMI n%d -> n%d\n" % (k, (k + 1) % 400, (k * 7 + 3) % 400) for k in range(400)])
        addresses = [(k * 499) % 2000 for k in range(400)]
        self.assertEqual(reached(place(lines, addresses)), {a: 1 for a in addresses})

    def test_all_the_drum(self):
        self.assertEqual(reached(*filled([order(1, 0, (a + 1) % 2000) for a in range(2000)])),
                         {a: 1 for a in range(2000)})
        self.assertEqual(reached(*filled([order(60, 1999 - a, (a + 1) % 2000) for a in range(2000)])),
                         {a: 3 for a in range(2000)})


class TestUsedWords(unittest.TestCase):
    def test_one_word(self):
        for code in ONE_WORD:
            for data in (1, 39, 40, 1999):
                self.assertEqual(reached(*image(0, {0: order(code, data, 2)})), {0: 1, data: 2, 2: 1})

    def test_no_word(self):
        for code in NO_WORD:
            self.assertEqual(reached(*image(0, {0: order(code, 9, 2)})), {0: 1, 2: 1})

    def test_a_band(self):
        for data in (1000, 1007, 1039):
            expected = {a: 2 for a in range(1000, 1040)}
            expected.update({0: 1, 2: 1})
            self.assertEqual(reached(*image(0, {0: order(60, data, 2)})), expected)

    def test_the_first_and_the_last_band(self):
        self.assertEqual(reached(*image(90, {90: order(60, 39, 90)})), {**{a: 2 for a in range(40)}, 90: 1})
        self.assertEqual(reached(*image(90, {90: order(60, 1960, 90)})), {**{a: 2 for a in range(1960, 2000)}, 90: 1})

    def test_eight_words(self):
        for code in (70, 71):
            for data, eight in (
                    (1000, range(1000, 1008)), (1032, range(1032, 1040)), (1033, [*range(1033, 1040), 1000]),
                    (1039, [1039, *range(1000, 1007)]), (1999, [1999, *range(1960, 1967)])):
                expected = {a: 2 for a in eight}
                expected.update({0: 1, 2: 1})
                self.assertEqual(reached(*image(0, {0: order(code, data, 2)})), expected)

    def test_used_more_than_once(self):
        words = {0: order(10, 80, 1), 1: order(30, 80, 2), 2: order(70, 76, 3), 3: order(71, 79, 4),
                 4: order(60, 85, 5)}
        expected = {a: 1 for a in range(6)}
        expected.update({a: 2 for a in [*range(76, 80), *range(40, 47), *range(80, 120)]})
        self.assertEqual(reached(*image(0, words)), expected)

    def test_what_lies_there_says_nothing(self):
        # A used word is no order because it looks like one, and leads nowhere.
        self.assertEqual(reached(*image(0, {0: order(10, 80, 2), 80: order(1, 0, 300)})), {0: 1, 2: 1, 80: 2})

    def test_what_is_not_reached_uses_nothing(self):
        self.assertEqual(reached(*image(0, {0: order(1, 0, 2), 3: order(10, 80, 4)})), {0: 1, 2: 1})

    def test_a_machine_without_a_card(self):
        calls = image(0, {0: order(70, 80, 2)}) + [run(1)]
        self.assertEqual(last(*calls, told())[1], 6)
        self.assertEqual(reached(*calls), {**{a: 2 for a in range(80, 88)}, 0: 1, 2: 1})


class TestBoth(unittest.TestCase):
    def test_an_order_and_a_used_word(self):
        self.assertEqual(reached(*image(0, {0: order(10, 0, 2)})), {0: 3, 2: 1})
        self.assertEqual(reached(*image(0, {0: order(30, 2, 2)})), {0: 1, 2: 3})
        self.assertEqual(reached(*image(0, {0: order(60, 30, 40)})), {**{a: 2 for a in range(40)}, 0: 3, 40: 1})
        self.assertEqual(reached(*image(3, {3: order(71, 38, 5)})),
                         {**{a: 2 for a in (38, 39, 0, 1, 2, 4)}, 3: 3, 5: 3})

    def test_by_rising_addresses(self):
        words = {1000: order(50, 3, 1999), 1999: order(12, 3, 0), 0: order(13, 500, 1000), 3: order(14, 2, 3)}
        self.assertEqual(last(*image(1000, words), reach()),
                         [0, 0, 1, 2, 2, 3, 3, 500, 2, 1000, 1, 1999, 1])


class TestFaults(unittest.TestCase):
    def test_a_fault_is_an_orders_address_and_no_more(self):
        for words in FAULTY.values():
            for word in words:
                with self.subTest(word=word):
                    self.assertEqual(reached(*image(7, {7: word})), {7: 1})
                    self.assertEqual(reached(*image(0, {0: order(51, 7, 0), 7: word})), {0: 1, 7: 1})

    def test_each_is_that_fault(self):
        for state, words in FAULTY.items():
            for word in words:
                self.assertEqual(last(*image(7, {7: word}), run(1), told())[1], state)

    def test_a_fault_that_is_used(self):
        self.assertEqual(reached(*image(0, {0: order(10, 7, 7), 7: -5})), {0: 1, 7: 3})

    def test_edges_that_are_no_fault(self):
        self.assertEqual(reached(*image(7, {7: order(42, 20, 1999)})), {7: 1, 1999: 1})
        self.assertEqual(reached(*image(7, {7: order(1, 2000, 8), 8: order(43, 9999, 9)})), {7: 1, 8: 1, 9: 1})


class TestNothingChanges(unittest.TestCase):
    def test_the_machine_is_as_it_was(self):
        calls = prepared(-5, 6) + [poke(15, -1), run(1)]
        self.assertEqual(everything(*calls, reach()), everything(*calls))


if __name__ == "__main__":
    unittest.main()
