"""Promise 9: why."""

import unittest

from asking import (ask, everything, filled, image, last, new, order, peek, place, placing, poke, prepared, run, text,
                    told, why)


def chain(*words, at=0):
    """An image whose orders, given by code and data address, lie one behind another from at on, a HLT behind them."""
    found = {at + k: order(code, data, at + k + 1) for k, (code, data) in enumerate(words)}
    return image(at, found)


class WhyTest(unittest.TestCase):
    def check_why(self, calls, kind, address):
        """What is told; the text and the placing are refused for it, and nothing changes."""
        self.assertEqual(ask(*calls, why(), text(), placing(), why())[-4:],
                         [[0, kind, address], [-9], [-9], [0, kind, address]])
        self.assertEqual(last(*calls, text(), placing(), told()), last(*calls, told()))

    def check_listed(self, calls):
        answered = ask(*calls, why(), text(), placing())[-3:]
        self.assertEqual(answered[0], [0, 0, 0])
        self.assertEqual([answer[0] for answer in answered[1:]], [0, 0])


class TestCanBeListed(WhyTest):
    def test_a_new_machine(self):
        self.check_listed([])
        self.check_listed([new(1999)])

    def test_orders_and_words(self):
        self.check_listed(chain((10, 80), (30, 81), (43, 9999), (42, 20), (50, 0), (60, 125), (70, 195), (71, 195)))

    def test_a_stopped_machine(self):
        self.check_listed([run(1)])
        self.check_listed(chain((70, 80)) + [run(1)])

    def test_a_fault_that_is_not_reached(self):
        self.check_listed([poke(1, -1)])

    def test_a_used_word_is_no_order(self):
        self.check_listed(chain((10, 80)) + [poke(80, -1)])


class TestFaultyOrders(WhyTest):
    def test_each_fault(self):
        for word in (-1, order(99, 0, 0), order(2, 0, 0), order(1, 0, 2000), order(10, 2000, 0), order(71, 9999, 0),
                     order(40, 21, 0), order(42, 9999, 0)):
            self.check_why(image(0, {0: word}), 1, 0)
            self.check_why(image(3, {3: order(1, 0, 1999), 1999: word}), 1, 1999)

    def test_no_card_is_no_fault(self):
        self.check_listed(image(0, {0: order(70, 80, 1)}))

    def test_the_least_address(self):
        words = {500: order(50, 1000, 20), 1000: order(51, 30, 40), 30: -7, 40: order(99, 0, 0), 20: order(1, 0, 3000)}
        self.check_why(image(500, words), 1, 20)

    def test_ahead_of_the_others(self):
        both = {0: order(50, 5, 1), 5: order(10, 0, 1), 1: order(60, 80, 2), 2: order(60, 81, 3), 3: order(71, 85, 4),
                4: -1}
        self.check_why(image(0, both), 1, 4)


class TestOrdersUsed(WhyTest):
    def test_one_word(self):
        self.check_why(chain((10, 0)), 2, 0)
        self.check_why(chain((10, 1)), 2, 1)
        self.check_why(chain((30, 2), (1, 0)), 2, 2)
        self.check_listed(chain((30, 3), (1, 0)))

    def test_a_band(self):
        self.check_why(chain((60, 60), at=79), 2, 79)
        self.check_listed(chain((60, 120), at=78))
        self.check_why(chain((60, 119), at=79), 2, 80)
        self.check_why(image(5, {5: order(60, 1999, 1960)}), 2, 1960)

    def test_eight_words(self):
        for code in (70, 71):
            self.check_why(chain((code, 38), at=5), 2, 5)
            self.check_why(chain((code, 39), at=5), 2, 5)
            self.check_listed(chain((code, 37), at=5))
            self.check_listed(chain((code, 7), at=5))
            self.check_why(chain((code, 6), at=5), 2, 6)

    def test_the_least_address(self):
        words = {900: order(10, 901, 901), 901: order(30, 17, 17), 17: order(71, 900, 5), 5: order(1, 0, 900)}
        self.check_why(image(900, words), 2, 17)

    def test_ahead_of_clashes(self):
        self.check_why(chain((60, 80), (60, 81), (10, 1999), (50, 1999)), 2, 1999)


class TestClashingLookUps(WhyTest):
    def test_two_of_one_band(self):
        self.check_why(chain((60, 80), (60, 81)), 3, 81)
        self.check_why(chain((60, 81), (60, 80)), 3, 81)
        self.check_why(chain((60, 119), (60, 80)), 3, 119)

    def test_the_same_address(self):
        self.check_listed(chain((60, 85), (60, 85), (60, 85)))

    def test_two_bands(self):
        self.check_listed(chain((60, 85), (60, 120), (60, 199), (60, 79)))

    def test_the_least_of_the_greater(self):
        self.check_why(chain((60, 90), (60, 110), (60, 100)), 3, 100)
        self.check_why(chain((60, 1990), (60, 1970), (60, 119), (60, 118)), 3, 119)


class TestClashingCards(WhyTest):
    def test_a_word_in_common(self):
        for first in (70, 71):
            for second in (70, 71):
                self.check_why(chain((first, 80), (second, 87)), 3, 87)
                self.check_why(chain((first, 87), (second, 80)), 3, 87)
                self.check_why(chain((first, 81), (second, 80)), 3, 81)
                self.check_listed(chain((first, 80), (second, 88)))

    def test_a_word_in_common_around_the_band(self):
        self.check_why(chain((70, 113), (71, 80)), 3, 113)
        self.check_listed(chain((70, 112), (71, 80)))
        self.check_why(chain((70, 119), (71, 86)), 3, 119)
        self.check_listed(chain((70, 119), (71, 87)))
        self.check_why(chain((70, 119), (71, 118)), 3, 119)

    def test_the_next_band_is_another(self):
        self.check_listed(chain((70, 119), (71, 120)))
        self.check_listed(chain((70, 119), (71, 159)))

    def test_the_first_in_common(self):
        self.check_listed(chain((70, 117), (71, 117), (70, 117)))

    def test_the_least_of_the_greater(self):
        self.check_why(chain((70, 95), (71, 85), (70, 90)), 3, 90)
        self.check_why(chain((70, 80), (71, 88), (70, 95), (71, 1960), (71, 1961)), 3, 95)

    def test_one_between_two(self):
        # 80 and 94 have no word in common, but each of them has one with 87.
        self.check_why(chain((70, 80), (70, 94), (70, 87)), 3, 87)


class TestCardsAgainstLookUps(WhyTest):
    def test_another_address(self):
        for code in (70, 71):
            for data in (80, 94, 96, 119):
                self.check_why(chain((code, data), (60, 95)), 3, data)
                self.check_why(chain((60, 95), (code, data)), 3, data)

    def test_the_same_address(self):
        self.check_listed(chain((60, 95), (70, 95), (71, 95)))
        self.check_listed(chain((70, 119), (60, 119)))

    def test_another_band(self):
        self.check_listed(chain((60, 95), (70, 120), (71, 79)))

    def test_the_least_of_all(self):
        self.check_why(chain((60, 95), (70, 100), (71, 90)), 3, 90)
        # The card at 95 clashes with the look-up at 99, though not with that at 95; these two tell 99.
        self.check_why(chain((60, 95), (60, 99), (70, 95)), 3, 95)
        self.check_why(chain((60, 95), (60, 99), (70, 99)), 3, 99)
        # Two cards tell 83; of each against the look-up the least is 80.
        self.check_why(chain((60, 85), (70, 80), (71, 83)), 3, 80)
        self.check_why(chain((60, 85), (60, 86), (70, 200), (71, 201)), 3, 86)
        self.check_why(chain((60, 285), (60, 286), (70, 200), (71, 201)), 3, 201)

    def test_one_word_clashes_with_nothing(self):
        self.check_listed(chain((60, 95), (10, 96), (30, 80), (70, 128), (32, 129), (71, 195), (12, 160)))


class TestTooManyItems(WhyTest):
    def orders(self, count):
        """So many orders, one behind another, from 0 on; at most 400 can be placed, so some are poked."""
        placed = place("NOP\n" * 399 + "HLT\n", list(range(400)))
        return [placed] + [poke(k, order(1, 0, k + 1)) for k in range(399, count - 1)]

    def test_orders(self):
        self.check_listed(self.orders(400))
        self.check_why(self.orders(401), 4, 0)
        self.check_why(self.orders(450), 4, 0)

    def test_a_word(self):
        calls = self.orders(399)
        calls[0] = place("NOP\n" * 398 + "HLT\n", list(range(399)))
        self.check_listed(calls + [poke(5, order(10, 1000, 6))])
        self.check_listed(calls + [poke(5, order(10, 1000, 6)), poke(6, order(30, 1000, 7))])
        self.check_why(calls + [poke(5, order(10, 1000, 6)), poke(6, order(30, 1001, 7))], 4, 0)

    def test_eight_and_forty_are_one_item(self):
        calls = [place("NOP\n" * 397 + "HLT\n", list(range(398)))]
        more = [poke(5, order(60, 1030, 6)), poke(6, order(71, 1199, 7))]
        self.check_listed(calls + more)
        self.check_listed(calls + more + [poke(7, order(70, 1030, 8)), poke(8, order(10, 1015, 9)),
                                          poke(9, order(10, 1162, 10))])
        self.check_why(calls + more + [poke(7, order(70, 1200, 8))], 4, 0)
        self.check_why(calls + more + [poke(7, order(10, 1170, 8))], 4, 0)

    def test_more_words_than_orders(self):
        # 40 orders of 60 in the last band use the first 40 bands, each from another place on: 80 items, 1640 words.
        words = [0] * 2000
        for k in range(40):
            words[1960 + k] = order(60, 40 * k + k, 1960 + (k + 1) % 40)
        self.check_listed(filled(words))

    def test_behind_the_other_kinds(self):
        self.check_why(self.orders(401) + [poke(400, -1)], 1, 400)
        self.check_why(self.orders(401) + [poke(5, order(10, 390, 6))], 2, 390)
        self.check_why(self.orders(401) + [poke(5, order(60, 1000, 6)), poke(6, order(60, 1001, 7))], 3, 1001)

    def test_all_the_drum(self):
        self.check_why(filled([order(1, 0, (a + 1) % 2000) for a in range(2000)]), 4, 0)


class TestNothingChanges(unittest.TestCase):
    def test_the_machine_is_as_it_was(self):
        for word in (-1, order(10, 15, 16), order(60, 90, 16)):
            calls = prepared(-5, 6) + [poke(15, word), poke(16, order(71, 91, 17)), run(2)]
            self.assertEqual(everything(*calls, why(), text(), placing()), everything(*calls))

    def test_a_refusal_leaves_the_drum(self):
        calls = image(0, {0: order(10, 0, 5), 5: -4})
        self.assertEqual(ask(*calls, text(), placing(), peek(0), peek(5))[-4:],
                         [[-9], [-9], [0, order(10, 0, 5)], [0, -4]])


if __name__ == "__main__":
    unittest.main()
