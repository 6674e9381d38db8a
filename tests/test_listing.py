"""Promises 10 and 11: text and placing."""

import unittest

from asking import (WORD_MOST, ask, everything, filled, image, last, listed, new, order, place, placing, poke, prepared,
                    rewind, run, text, told, why)


def counted(first, last_one):
    return " ".join([str(k) for k in range(first, last_one + 1)])


class ListingTest(unittest.TestCase):
    def check(self, calls, lines, addresses):
        self.assertEqual(listed(*calls), ("".join([line + "\n" for line in lines]), addresses))

    def check_operand(self, words, line):
        """The line of the order at 0, which is the next, in an image of these words."""
        self.assertEqual(listed(*image(0, words))[0].split("\n")[0], line)


class TestOrderOfItems(ListingTest):
    def test_a_new_machine(self):
        self.check([], ["a0: HLT"], [0])
        self.check([new(1999)], ["a1999: HLT"], [1999])

    def test_the_bytes(self):
        self.assertEqual(ask(new(10), text(), placing()), [[0], [0, 97, 49, 48, 58, 32, 72, 76, 84, 10], [0, 10]])

    def test_the_next_order_is_first(self):
        words = {500: order(10, 3, 7), 3: 44, 7: order(50, 500, 1999), 1999: order(12, 1000, 0), 1000: -1}
        self.check(image(500, words), [
            "a500: LDA a3 -> a7", "a0: HLT", "a3 = 44", "a7: BMI a500 -> a1999", "a1000 = -1", "a1999: ADD a1000 -> a0",
        ], [500, 0, 3, 7, 1000, 1999])

    def test_the_next_order_is_the_last_address(self):
        self.check(image(1999, {1999: order(1, 0, 5)}), ["a1999: NOP -> a5", "a5: HLT"], [1999, 5])

    def test_by_address_and_not_by_name(self):
        words = {0: order(1, 0, 100), 100: order(1, 0, 20), 20: order(1, 0, 3)}
        self.check(image(0, words), ["a0: NOP -> a100", "a3: HLT", "a20: NOP -> a3", "a100: NOP -> a20"],
                   [0, 3, 20, 100])

    def test_only_from_the_next_order_on(self):
        calls = image(0, {0: order(10, 9, 1), 1: order(12, 8, 2), 2: order(1, 0, 3)})
        self.check(calls + [run(1)], ["a1: ADD a8 -> a2", "a2: NOP -> a3", "a3: HLT", "a8 = 0"], [1, 2, 3, 8])
        self.check(calls + [run(9)], ["a3: HLT"], [3])

    def test_an_items_place_is_that_of_its_first_word(self):
        # The eight begin at 78 and go around to 45; the word at 46 comes before them, that at 77 too.
        words = {0: order(71, 78, 1), 1: order(10, 46, 2), 2: order(10, 77, 3), 3: order(10, 80, 4)}
        self.check(image(0, words), [
            "a0: PCH a78 -> a1", "a1: LDA a46 -> a2", "a2: LDA a77 -> a3", "a3: LDA a80 -> a4", "a4: HLT",
            "a46 = 0", "a77 = 0", "a78 = 0 0 0 0 0 0 0 0", "a80 = 0",
        ], [0, 1, 2, 3, 4, 46, 77, 78, 80])


class TestOrderLines(ListingTest):
    def test_letters(self):
        for code, letters in {
                10: "LDA", 11: "LDN", 12: "ADD", 13: "SUB", 14: "ADM", 15: "SBM", 16: "ADU", 17: "SBU", 18: "LDD",
                20: "MUL", 21: "DIV", 30: "STL", 31: "STU", 32: "STD", 50: "BMI", 51: "BNZ", 52: "BOV", 60: "TLU",
                70: "RDC", 71: "PCH"}.items():
            self.check_operand({0: order(code, 1000, 7)}, "a0: " + letters + " a1000 -> a7")

    def test_shifts(self):
        for code, letters in {40: "SHL", 41: "SHR", 42: "SRR"}.items():
            for far in (0, 7, 10, 20):
                self.check_operand({0: order(code, far, 7)}, "a0: " + letters + " " + str(far) + " -> a7")

    def test_no_operand(self):
        for data in (0, 5, 1999, 2000, 9999):
            self.check_operand({0: order(1, data, 7)}, "a0: NOP -> a7")
            self.check_operand({0: order(43, data, 7)}, "a0: SCT -> a7")
            self.check_operand({0: order(0, data, 7)}, "a0: HLT")
            self.check_operand({0: order(0, 7, data)}, "a0: HLT")

    def test_the_next_order_is_always_told(self):
        # The next order's line stands right behind, and it's told nonetheless.
        self.check(image(0, {0: order(1, 0, 1), 1: order(43, 0, 2)}),
                   ["a0: NOP -> a1", "a1: SCT -> a2", "a2: HLT"], [0, 1, 2])
        self.check(image(5, {5: order(1, 0, 5)}), ["a5: NOP -> a5"], [5])
        self.check(image(5, {5: order(52, 5, 5)}), ["a5: BOV a5 -> a5"], [5])

    def test_jumps(self):
        self.check(image(5, {5: order(50, 90, 6), 6: order(51, 5, 90)}),
                   ["a5: BMI a90 -> a6", "a6: BNZ a5 -> a90", "a90: HLT"], [5, 6, 90])


class TestNumbers(ListingTest):
    def test_one_word(self):
        for word in (-WORD_MOST, -10, -1, 0, 1, 10, WORD_MOST, order(1, 0, 7)):
            self.check(image(0, {0: order(10, 80, 0), 80: word}), ["a0: LDA a80 -> a0", "a80 = " + str(word)], [0, 80])

    def test_words_side_by_side_are_items_of_their_own(self):
        self.check(image(0, {0: order(10, 81, 1), 1: order(12, 80, 2), 80: 7, 81: 8}),
                   ["a0: LDA a81 -> a1", "a1: ADD a80 -> a2", "a2: HLT", "a80 = 7", "a81 = 8"], [0, 1, 2, 80, 81])

    def test_a_word_used_twice_is_one_item(self):
        self.check(image(0, {0: order(10, 80, 1), 1: order(30, 80, 2)}),
                   ["a0: LDA a80 -> a1", "a1: STL a80 -> a2", "a2: HLT", "a80 = 0"], [0, 1, 2, 80])

    def test_eight_words(self):
        words = {0: order(70, 83, 1), 1: order(71, 83, 2), 2: order(30, 83, 3), 3: order(10, 84, 4),
                 4: order(10, 90, 5), 5: order(10, 91, 6)}
        words.update({80 + k: -k for k in range(20)})
        self.check(image(0, words), [
            "a0: RDC a83 -> a1", "a1: PCH a83 -> a2", "a2: STL a83 -> a3", "a3: LDA a83+1 -> a4", "a4: LDA a83+7 -> a5",
            "a5: LDA a91 -> a6", "a6: HLT", "a83 = -3 -4 -5 -6 -7 -8 -9 -10", "a91 = -11",
        ], [0, 1, 2, 3, 4, 5, 6, 83, 91])

    def test_eight_words_around_the_band(self):
        words = {0: order(71, 117, 1), 1: order(10, 119, 2), 2: order(10, 80, 3), 3: order(10, 84, 4),
                 4: order(10, 85, 5), 5: order(10, 116, 6), 117: 1, 118: 2, 119: 3, 80: 4, 81: 5, 82: 6, 83: 7, 84: 8, 85: 9, 116: 10}
        self.check(image(0, words), [
            "a0: PCH a117 -> a1", "a1: LDA a117+2 -> a2", "a2: LDA a117+3 -> a3", "a3: LDA a117+7 -> a4",
            "a4: LDA a85 -> a5", "a5: LDA a116 -> a6", "a6: HLT", "a85 = 9", "a116 = 10", "a117 = 1 2 3 4 5 6 7 8",
        ], [0, 1, 2, 3, 4, 5, 6, 85, 116, 117])

    def test_eights_side_by_side(self):
        self.check(image(0, {0: order(70, 112, 1), 1: order(71, 80, 2), 2: order(10, 87, 3), 112: 1, 80: 2, 87: 3}), [
            "a0: RDC a112 -> a1", "a1: PCH a80 -> a2", "a2: LDA a80+7 -> a3", "a3: HLT",
            "a80 = 2 0 0 0 0 0 0 3", "a112 = 1 0 0 0 0 0 0 0",
        ], [0, 1, 2, 3, 80, 112])

    def test_forty_words(self):
        words = {0: order(60, 80, 1), 1: order(10, 80, 2), 2: order(10, 81, 3), 3: order(32, 119, 0)}
        words.update({80 + k: k + 1 for k in range(40)})
        self.check(image(0, words), [
            "a0: TLU a80 -> a1", "a1: LDA a80 -> a2", "a2: LDA a80+1 -> a3", "a3: STD a80+39 -> a0",
            "a80 = " + counted(1, 40),
        ], [0, 1, 2, 3, 80])

    def test_forty_words_around_the_band(self):
        words = {0: order(60, 95, 1), 1: order(10, 94, 2), 2: order(10, 80, 3), 3: order(10, 119, 4),
                 4: order(70, 95, 5), 5: order(71, 95, 6), 6: order(10, 95, 7), 7: order(60, 95, 0)}
        words.update({80 + k: k + 1 for k in range(40)})
        self.check(image(0, words), [
            "a0: TLU a95 -> a1", "a1: LDA a95+39 -> a2", "a2: LDA a95+25 -> a3", "a3: LDA a95+24 -> a4",
            "a4: RDC a95 -> a5", "a5: PCH a95 -> a6", "a6: LDA a95 -> a7", "a7: TLU a95 -> a0",
            "a95 = " + counted(16, 40) + " " + counted(1, 15),
        ], [0, 1, 2, 3, 4, 5, 6, 7, 95])

    def test_the_first_and_the_last_band(self):
        words = {40: order(60, 39, 41), 41: order(60, 1960, 42), 42: order(30, 0, 43), 43: order(30, 1999, 40),
                 39: 5, 1999: 6}
        self.check(image(40, words), [
            "a40: TLU a39 -> a41", "a39 = 5" + " 0" * 39, "a41: TLU a1960 -> a42", "a42: STL a39+1 -> a43",
            "a43: STL a1960+39 -> a40", "a1960 =" + " 0" * 39 + " 6",
        ], [40, 39, 41, 42, 43, 1960])

    def test_words_as_they_stand_now(self):
        calls = [place("a: RDC w\nLDA w\nADD w+1\nSTL v -> a\nw = 0 0 0 0 0 0 0 0\nv = 1\n", [0, 1, 2, 3, 80, 90])]
        lines = ["a0: RDC a80 -> a1", "a1: LDA a80 -> a2", "a2: ADD a80+1 -> a3", "a3: STL a90 -> a0"]
        addresses = [0, 1, 2, 3, 80, 90]
        self.check(calls, lines + ["a80 = 0 0 0 0 0 0 0 0", "a90 = 1"], addresses)
        self.check(calls + [run(4, [4, -9, 0, 0, 0, 0, 0, WORD_MOST])],
                   lines + ["a80 = 4 -9 0 0 0 0 0 9999999999", "a90 = -5"], addresses)


class TestRefused(unittest.TestCase):
    def check_refused(self, calls, kind):
        self.assertEqual([answer[:2] for answer in ask(*calls, why(), text(), placing())[-3:]], [[0, kind], [-9], [-9]])
        self.assertEqual(everything(*calls, text(), placing()), everything(*calls))

    def test_each_kind(self):
        before = prepared(-5, 6)
        self.check_refused(before + [poke(15, -1), run(1)], 1)
        self.check_refused(before + [poke(15, order(1, 0, 40)), poke(40, order(40, 21, 0))], 1)
        self.check_refused(before + [poke(15, order(10, 15, 30))], 2)
        self.check_refused(before + [poke(15, order(60, 90, 16)), poke(16, order(60, 91, 17))], 3)
        self.check_refused(before + [poke(15, order(70, 90, 16)), poke(16, order(71, 91, 17))], 3)
        self.check_refused(before + [poke(15, order(60, 90, 16)), poke(16, order(71, 91, 17))], 3)
        ring = [place("NOP\n" * 399 + "HLT\n", range(400)), poke(399, order(1, 0, 400)), poke(400, order(1, 0, 0))]
        self.check_refused(ring + [run(3)], 4)

    def test_mended_it_is_told(self):
        self.assertEqual(ask(poke(0, -1), text(), placing(), poke(0, order(1, 0, 0)), text(), placing())[1:],
                         [[-9], [-9], [0], [0] + list(b"a0: NOP -> a0\n"), [0, 0]])


class TestNothingChanges(unittest.TestCase):
    def test_the_machine_is_as_it_was(self):
        calls = prepared(-5, 6) + [poke(15, order(70, 90, 16)), run(1)]
        self.assertEqual(last(*calls, told())[1], 6)
        self.assertEqual(everything(*calls, text(), placing(), text()), everything(*calls))


class TestReadBack(unittest.TestCase):
    def check_read_back(self, calls, cards=()):
        """The text placed by its placing has the same text and placing, and does the same."""
        lines, addresses = listed(*calls)
        again = [place(lines, addresses)]
        self.assertEqual(listed(*again), (lines, addresses))
        self.assertEqual(ask(*calls, rewind(), run(500, cards), told())[-2:], ask(*again, run(500, cards), told())[-2:])

    def test_small_images(self):
        self.check_read_back([])
        self.check_read_back([new(1999)])
        self.check_read_back(image(7, {7: order(0, 9999, 9999)}))
        self.check_read_back(image(7, {7: order(1, 9999, 8), 8: order(43, 777, 7)}))

    def test_one_order_of_each(self):
        sorts = ([(code, 85) for code in (10, 11, 12, 13, 14, 15, 16, 17, 18, 20, 21, 30, 31, 32, 60, 70, 71)]
                 + [(code, 3) for code in (40, 41, 42, 50, 51, 52)] + [(1, 44), (43, 45)])
        words = {k: order(code, data, k + 1) for k, (code, data) in enumerate(sorts)}
        words.update({80 + k: (k - 20) * 10 ** 8 for k in range(40)})
        self.check_read_back(image(0, words), range(64))

    def test_a_run_that_goes_on(self):
        lines = "a: RDC w\nLDA w+2\nMUL w+3\nSRR 1\nSTL v+1\nPCH w -> a\nw = 1 2 3 4 5 6 7 8\nv = 9 10\n"
        calls = [place(lines, [4, 9, 13, 50, 33, 1, 76, 119])]
        cards = [k * 12345 - 40000 for k in range(64)]
        for orders in (0, 1, 2, 3, 4, 5, 6, 9):
            self.check_read_back(calls + [run(orders, cards)], cards)

    def test_four_hundred_items(self):
        self.check_read_back([place("NOP\n" * 399 + "HLT\n", [(k * 7) % 2000 for k in range(400)])])

    def test_a_long_text(self):
        # The 39 bands ahead of the last are looked up, each from its last place on.
        words = [-WORD_MOST + a for a in range(1960)] + [0] * 40
        for k in range(39):
            words[1960 + k] = order(60, 40 * k + 39, 1960 + (k + 1) % 39)
        lines, addresses = listed(*filled(words))
        self.assertEqual(addresses, [1960] + [40 * k + 39 for k in range(39)] + list(range(1961, 1999)))
        self.assertEqual(lines.count(" "), 39 * 41 + 39 * 4)
        self.assertEqual(lines.split("\n")[1], "a39 = " + " ".join([str(words[a]) for a in (39, *range(39))]))
        self.assertEqual(listed(place(lines, addresses)), (lines, addresses))


if __name__ == "__main__":
    unittest.main()
