"""The interface: one list of calls in, one list of answers out."""

import unittest

from asking import new, order, peek, place, placing, poke, reach, rewind, run, text, told, why
from drumback.desk import answers

ALL_ELEVEN = (
    new(7) + poke(7, order(71, 80, 8)) + poke(80, -3) + reach() + why() + text() + placing() + run(9) + told() + text()
    + rewind() + told() + poke(8, order(12, 8, 8)) + why() + text() + placing() + reach() + peek(8) + place("NOP", [1])
    + new(2000) + place("NOP\nHLT\n", [4, 9]) + reach() + why() + placing()
)


class TestAnswers(unittest.TestCase):
    def test_each_call_alone(self):
        self.assertEqual(answers([1, 5]), [1, 0])
        self.assertEqual(answers([1, 2000]), [1, -1])
        self.assertEqual(answers([2, 1, 2]), [1, 0])
        self.assertEqual(answers([2, 2000, 2]), [1, -1])
        self.assertEqual(answers([3, 1]), [2, 0, 0])
        self.assertEqual(answers([3, -1]), [1, -1])
        self.assertEqual(answers([4, 4, 72, 76, 84, 10, 1, 9]), [1, 0])
        self.assertEqual(answers([4, 4, 72, 76, 84, 10, 0]), [1, -1])
        self.assertEqual(answers([4, 4, 72, 76, 84, 10, 1, 2000]), [1, -9])
        self.assertEqual(answers([4, 0, 0]), [1, -6])
        self.assertEqual(answers([5, 3, 0]), [3, 0, 1, 0])
        self.assertEqual(answers([5, 3, 8, 0, 0, 0, 0, 0, 0, 0, 0]), [3, 0, 1, 0])
        self.assertEqual(answers([5, 3, 1, 0]), [1, -1])
        self.assertEqual(answers([6]), [7, 0, 0, 0, 0, 0, 0, 0])
        self.assertEqual(answers([7]), [1, 0])
        self.assertEqual(answers([8]), [3, 0, 0, 1])
        self.assertEqual(answers([9]), [3, 0, 0, 0])
        self.assertEqual(answers([10]), [9, 0, 97, 48, 58, 32, 72, 76, 84, 10])
        self.assertEqual(answers([11]), [2, 0, 0])

    def test_many_calls(self):
        calls = (new(7) + poke(7, order(71, 80, 8)) + poke(80, -3) + peek(80) + run(9) + told() + poke(2000, 1)
                 + place("NOP\nHLT\n", [4, 9]) + told() + run(10001) + run(1) + told())
        self.assertEqual(answers(calls), [
            1, 0, 1, 0, 1, 0, 2, 0, -3,
            11, 0, 2, 0, -3, 0, 0, 0, 0, 0, 0, 0,
            7, 0, 1, 0, 8, 91, 0, 0,
            1, -1, 1, 0,
            7, 0, 0, 0, 4, 0, 0, 0,
            1, -1, 3, 0, 1, 0,
            7, 0, 0, 0, 9, 7, 0, 0,
        ])

    def test_all_eleven_mixed(self):
        lines = list(b"a7: PCH a80 -> a8\na8: HLT\na80 = -3 0 0 0 0 0 0 0\n")
        self.assertEqual(answers(ALL_ELEVEN), [
            1, 0, 1, 0, 1, 0,
            21, 0, 7, 1, 8, 1, 80, 2, 81, 2, 82, 2, 83, 2, 84, 2, 85, 2, 86, 2, 87, 2,
            3, 0, 0, 0,
            1 + len(lines), 0, *lines,
            4, 0, 7, 8, 80,
            11, 0, 2, 0, -3, 0, 0, 0, 0, 0, 0, 0,
            7, 0, 1, 0, 8, 91, 0, 0,
            9, 0, 97, 56, 58, 32, 72, 76, 84, 10,
            1, 0,
            7, 0, 0, 0, 8, 0, 0, 0,
            1, 0, 3, 0, 2, 8, 1, -9, 1, -9, 3, 0, 8, 3, 2, 0, 1200080008,
            1, -6, 1, -1,
            1, 0, 5, 0, 4, 1, 9, 1, 3, 0, 0, 0, 3, 0, 4, 9,
        ])

    def test_three_hundred_calls(self):
        self.assertEqual(answers([6] * 300), [7, 0, 0, 0, 0, 0, 0, 0] * 300)
        self.assertEqual(answers([7, 8, 9, 10, 11] * 60),
                         [1, 0, 3, 0, 0, 1, 3, 0, 0, 0, 9, 0, 97, 48, 58, 32, 72, 76, 84, 10, 2, 0, 0] * 60)

    def test_refused_rows_are_passed_over(self):
        calls = run(1, [1] * 600) + place("\xff" * 300, [6] * 600) + run(-1, [6] * 9) + told()
        self.assertEqual(answers(calls), [1, -1, 1, -6, 1, -1, 7, 0, 0, 0, 0, 0, 0, 0])

    def test_the_list_stays_as_it_was(self):
        calls = place("a: RDC w -> a\nw = 1 2 3 4 5 6 7 8\n", [0, 1]) + run(5, [9] * 16) + poke(1, 3) + told()
        for handed_in in (calls, ALL_ELEVEN):
            kept = list(handed_in)
            answers(handed_in)
            self.assertEqual(handed_in, kept)

    def test_nothing_is_kept(self):
        calls = poke(0, order(12, 9, 1)) + poke(9, 4) + run(1) + told() + peek(9)
        for handed_in in (calls, ALL_ELEVEN):
            first = answers(handed_in)
            self.assertEqual(answers(handed_in), first)
        first.append(5)
        self.assertEqual(answers(ALL_ELEVEN), first[:-1])
        self.assertEqual(answers(told() + peek(9) + peek(0)), [7, 0, 0, 0, 0, 0, 0, 0, 2, 0, 0, 2, 0, 0])

    def test_kinds(self):
        calls = (place("LDA w\nSHL 20\nBOV b\nb: TLU v\nHLT\nw = 1\nv = " + " ".join(["0"] * 40) + "\n",
                       [0, 1, 2, 3, 4, 5, 40]) + run(9) + told() + new(-1) + peek(0))
        for handed_in in (calls, ALL_ELEVEN):
            given = answers(handed_in)
            self.assertIs(type(given), list)
            self.assertEqual({type(number) for number in given}, {int})


if __name__ == "__main__":
    unittest.main()
