"""Promise 4: a program's text placed on the drum."""

import unittest

from asking import WORD_MOST, ask, drum_but_zeros, last, new, order, peek, place, poke, run, told
from drumback.calls import place as place_call
from drumback.machine import Machine

FORTY = " ".join([str(k) for k in range(1, 41)])
ONE_OF_EACH = """first: NOP
LDA w
LDN w+1
ADD w+2
SUB w+3
ADM w+4
SBM w+5
ADU w+6
SBU w+7
LDD w+8
MUL w+9
DIV w+10
STL w+11
STU w+12
STD w+39
SHL 0
SHR 7
SRR 20
SCT
w = %s
BMI first
BNZ end
BOV end -> first
TLU w
RDC w
PCH v
end: HLT
v = 1 2 3 4 5 6 7 8
""" % FORTY


class TestPlaced(unittest.TestCase):
    def test_one_order(self):
        self.assertEqual(ask(place("HLT\n", [0]), told()), [[0], [0, 0, 0, 0, 0, 0, 0]])
        self.assertEqual(ask(place("HLT\n", [1999]), told()), [[0], [0, 0, 0, 1999, 0, 0, 0]])
        self.assertEqual(drum_but_zeros(place("HLT\n", [1999])), {})

    def test_one_order_of_each(self):
        # The orders lie at 100 and on; w begins at 230, in the band from 200 on.
        placing = [100 + item for item in range(19)] + [230] + [120 + item for item in range(7)] + [300]
        expected = {
            100: order(1, 0, 101),
            101: order(10, 230, 102), 102: order(11, 231, 103), 103: order(12, 232, 104), 104: order(13, 233, 105),
            105: order(14, 234, 106), 106: order(15, 235, 107), 107: order(16, 236, 108), 108: order(17, 237, 109),
            109: order(18, 238, 110), 110: order(20, 239, 111), 111: order(21, 200, 112), 112: order(30, 201, 113),
            113: order(31, 202, 114), 114: order(32, 229, 115), 115: order(40, 0, 116), 116: order(41, 7, 117),
            117: order(42, 20, 118), 118: order(43, 0, 120),
            120: order(50, 100, 121), 121: order(51, 126, 122), 122: order(52, 126, 100), 123: order(60, 230, 124),
            124: order(70, 230, 125), 125: order(71, 300, 126),
        }
        for k in range(40):
            expected[200 + (30 + k) % 40] = k + 1
        for k in range(8):
            expected[300 + k] = k + 1
        self.assertEqual(drum_but_zeros(place(ONE_OF_EACH, placing)), expected)
        self.assertEqual(last(place(ONE_OF_EACH, placing), told()), [0, 0, 0, 100, 0, 0, 0])

    def test_it_begins_at_the_first_order(self):
        self.assertEqual(last(place("w = 5\nv = 6\nb: NOP\na: HLT\n", [3, 4, 77, 9]), told()), [0, 0, 0, 77, 0, 0, 0])

    def test_the_next_order_is_told(self):
        text = "a: NOP -> c\nb: NOP -> a\nc: NOP -> c\n"
        self.assertEqual(drum_but_zeros(place(text, [10, 20, 30])),
                         {10: order(1, 0, 30), 20: order(1, 0, 10), 30: order(1, 0, 30)})

    def test_the_next_order_is_not_told(self):
        text = "NOP\nw = 5\nv = 6\nBMI a\na: HLT\nNOP\nu = 7\nHLT\n"
        self.assertEqual(drum_but_zeros(place(text, [10, 11, 12, 13, 14, 15, 16, 17])),
                         {10: order(1, 0, 13), 11: 5, 12: 6, 13: order(50, 14, 14), 15: order(1, 0, 17), 16: 7})

    def test_hlt_has_no_next_order(self):
        self.assertEqual(drum_but_zeros(place("HLT\na: NOP -> a\n", [10, 20])), {20: order(1, 0, 20)})

    def test_numbers_around_the_band(self):
        self.assertEqual(drum_but_zeros(place("LDA w+3\nHLT\nw = -1 2 9999999999 -9999999999\n", [0, 1, 1998])),
                         {0: order(10, 1961, 1), 1998: -1, 1999: 2, 1960: WORD_MOST, 1961: -WORD_MOST})
        self.assertEqual(drum_but_zeros(place("STL w+1\nHLT\nw = 7 8\n", [5, 6, 39])),
                         {5: order(30, 0, 6), 39: 7, 0: 8})

    def test_noughts_are_placed(self):
        self.assertEqual(ask(poke(7, 5), place("HLT\nw = 0\n", [3, 7]), peek(7)), [[0], [0], [0, 0]])

    def test_a_second_place_behind_a_run(self):
        calls = [
            place("LDA w\nADD w\nSHL 20\nNOP\nHLT\nw = 9999999999\n", [0, 1, 2, 3, 4, 50]), run(9), told(),
            place("NOP\nHLT\nv = 8\n", [1000, 2, 51]),
        ]
        self.assertEqual(ask(*calls)[1:], [[0, 5, 0], [0, 1, 1, 4, 167, 0, WORD_MOST], [0]])
        self.assertEqual(last(*calls, told()), [0, 0, 0, 1000, 0, 0, 0])
        self.assertEqual(drum_but_zeros(*calls), {1000: order(1, 0, 2), 51: 8})
        self.assertEqual(ask(*calls, run(9), told())[-2:], [[0, 2, 0], [0, 1, 0, 2, 45, 0, 0]])

    def test_a_placed_program_runs(self):
        text = "again: RDC w\nLDA w\nADD w+1\nSTL w+2\nPCH w -> again\nw = 0 0 0 0 0 0 0 0\n"
        calls = [place(text, [10, 20, 30, 0, 5, 76])]
        self.assertEqual(last(*calls, run(100, [3, 4, 0, 0, 0, 0, 0, 9, -5, 1, 0, 0, 0, 0, 0, 2])),
                         [0, 11, 2, 3, 4, 7, 0, 0, 0, 0, 9, -5, 1, -4, 0, 0, 0, 0, 2])


class TestRefused(unittest.TestCase):
    def check_refused(self, text, placing, refusal):
        before = [new(5), poke(5, order(10, 6, 7)), poke(6, -4), run(1)]
        expected = ask(*before, told())[-1]
        self.assertEqual(ask(*before, place(text, placing), told())[-2:], [[refusal], expected])
        self.assertEqual(drum_but_zeros(*before, place(text, placing)), drum_but_zeros(*before))

    def test_no_program(self):
        for text in ("", "HLT", "nonsense\n", "a: HLT\na: HLT\n", "LDA a\nHLT\n", "NOP -> a\n", "NOP\n", "w = 1\n"):
            self.check_refused(text, [0] * text.count("\n"), -6)

    def test_no_program_goes_first(self):
        self.check_refused("NOP\n", [], -6)
        self.check_refused("NOP\n", [1, 2], -6)
        self.check_refused("NOP\n", [2000], -6)

    def test_another_number_of_addresses(self):
        self.check_refused("HLT\n", [], -1)
        self.check_refused("HLT\n", [0, 1], -1)
        self.check_refused("HLT\n", [0] * 600, -1)
        self.check_refused("HLT\nw = 1 2 3\n", [0, 1, 2, 3], -1)

    def test_another_number_goes_ahead_of_no_fit(self):
        self.check_refused("HLT\n", [2000, -1], -1)
        self.check_refused("HLT\nHLT\n", [2000], -1)
        self.check_refused("HLT\nHLT\n", [5, 5, 5], -1)

    def test_no_address(self):
        for address in (-1, 2000, -17179869183, 17179869183):
            self.check_refused("HLT\n", [address], -9)
            self.check_refused("HLT\nw = 1\n", [0, address], -9)
            self.check_refused("HLT\nw = 1 2 3\n", [0, address], -9)

    def test_words_where_others_lie(self):
        self.check_refused("HLT\nHLT\n", [5, 5], -9)
        self.check_refused("HLT\nw = 5\n", [7, 7], -9)
        self.check_refused("HLT\nw = 1 2 3\n", [7, 5], -9)
        self.check_refused("w = 1 2 3\nHLT\n", [5, 7], -9)
        self.check_refused("HLT\nv = 1 2 3\nw = 1 2 3\n", [0, 10, 12], -9)
        self.check_refused("HLT\nv = 1 2 3\nw = 1 2 3\n", [0, 12, 10], -9)

    def test_words_where_others_lie_around_the_band(self):
        self.check_refused("HLT\nw = 1 2 3\n", [40, 78], -9)
        self.check_refused("HLT\nw = " + FORTY + "\n", [79, 50], -9)
        self.check_refused("HLT\nw = 1 2 3\n", [1960, 1998], -9)

    def test_side_by_side(self):
        self.assertEqual(ask(place("HLT\nv = 1 2 3\nw = 1 2 3\n", [9, 10, 13])), [[0]])
        self.assertEqual(ask(place("HLT\nw = 1 2 3\n", [41, 78])), [[0]])
        self.assertEqual(ask(place("HLT\nw = 1 2 3\n", [80, 78])), [[0]])
        self.assertEqual(ask(place("HLT\nw = " + FORTY + "\n", [80, 79])), [[0]])
        self.assertEqual(ask(place("HLT\nw = " + FORTY + "\n", [39, 79])), [[0]])

    def test_a_full_drum(self):
        rows = "".join(["w%d = %s\n" % (band, FORTY) for band in range(49)])
        placing = [band * 40 + band % 40 for band in range(49)] + [1960 + k for k in range(40)]
        self.assertEqual(ask(place(rows + "HLT\n" * 40, placing)), [[0]])

    def test_too_long_a_text(self):
        # So long a text no list of calls has, so the call is asked by itself.
        text = list(b"HLT\n" * 16384)
        self.assertEqual(place_call(Machine(0), text, []), [-6])
        self.assertEqual(place_call(Machine(0), text + [10], []), [-1])


if __name__ == "__main__":
    unittest.main()
