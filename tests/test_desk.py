"""The interface: one list of calls in, one list of answers out."""

import unittest

from asking import new, order, peek, place, poke, run, told
from drumback.desk import answers


class TestAnswers(unittest.TestCase):
    def test_each_call_alone(self):
        self.assertEqual(answers([1, 5]), [1, 0])
        self.assertEqual(answers([1, 2000]), [1, -1])
        self.assertEqual(answers([2, 1, 2]), [1, 0])
        self.assertEqual(answers([2, 2000, 2]), [1, -1])
        self.assertEqual(answers([3, 1]), [2, 0, 0])
        self.assertEqual(answers([3, -1]), [1, -1])
        self.assertEqual(answers([4, 4, 72, 76, 84, 10, 1, 9]), [1, 0])
        self.assertEqual(answers([4, 4, 72, 76, 84, 10, 0]), [1, -1])
        self.assertEqual(answers([4, 4, 72, 76, 84, 10, 1, 2000]), [1, -9])
        self.assertEqual(answers([4, 0, 0]), [1, -6])
        self.assertEqual(answers([5, 3, 0]), [3, 0, 1, 0])
        self.assertEqual(answers([5, 3, 8, 0, 0, 0, 0, 0, 0, 0, 0]), [3, 0, 1, 0])
        self.assertEqual(answers([5, 3, 1, 0]), [1, -1])
        self.assertEqual(answers([6]), [7, 0, 0, 0, 0, 0, 0, 0])

    def test_many_calls(self):
        calls = (new(7) + poke(7, order(71, 80, 8)) + poke(80, -3) + peek(80) + run(9) + told() + poke(2000, 1)
                 + place("NOP\nHLT\n", [4, 9]) + told() + run(10001) + run(1) + told())
        self.assertEqual(answers(calls), [
            1, 0, 1, 0, 1, 0, 2, 0, -3,
            11, 0, 2, 0, -3, 0, 0, 0, 0, 0, 0, 0,
            7, 0, 1, 0, 8, 91, 0, 0,
            1, -1, 1, 0,
            7, 0, 0, 0, 4, 0, 0, 0,
            1, -1, 3, 0, 1, 0,
            7, 0, 0, 0, 9, 7, 0, 0,
        ])

    def test_three_hundred_calls(self):
        self.assertEqual(answers([6] * 300), [7, 0, 0, 0, 0, 0, 0, 0] * 300)

    def test_refused_rows_are_passed_over(self):
        calls = run(1, [1] * 600) + place("\xff" * 300, [6] * 600) + run(-1, [6] * 9) + told()
        self.assertEqual(answers(calls), [1, -1, 1, -6, 1, -1, 7, 0, 0, 0, 0, 0, 0, 0])

    def test_the_list_stays_as_it_was(self):
        calls = place("a: RDC w -> a\nw = 1 2 3 4 5 6 7 8\n", [0, 1]) + run(5, [9] * 16) + poke(1, 3) + told()
        kept = list(calls)
        answers(calls)
        self.assertEqual(calls, kept)

    def test_nothing_is_kept(self):
        calls = poke(0, order(12, 9, 1)) + poke(9, 4) + run(1) + told() + peek(9)
        first = answers(calls)
        self.assertEqual(answers(calls), first)
        self.assertEqual(answers(told() + peek(9) + peek(0)), [7, 0, 0, 0, 0, 0, 0, 0, 2, 0, 0, 2, 0, 0])

    def test_kinds(self):
        calls = (place("LDA w\nSHL 20\nBOV b\nb: TLU v\nHLT\nw = 1\nv = " + " ".join(["0"] * 40) + "\n",
                       [0, 1, 2, 3, 4, 5, 40]) + run(9) + told() + new(-1) + peek(0))
        given = answers(calls)
        self.assertIs(type(given), list)
        self.assertEqual({type(number) for number in given}, {int})


if __name__ == "__main__":
    unittest.main()
