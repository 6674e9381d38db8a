"""Promises 1 to 3 and 6: new, poke, peek, told."""

import unittest

from asking import WORD_MOST, ask, last, new, order, peek, place, poke, run, told


class TestNew(unittest.TestCase):
    def test_new_at_the_beginning(self):
        self.assertEqual(ask(told()), [[0, 0, 0, 0, 0, 0, 0]])

    def test_first_and_last_start(self):
        for start in (0, 1, 777, 1999):
            self.assertEqual(ask(new(start), told()), [[0], [0, 0, 0, start, 0, 0, 0]])

    def test_start_outside_is_refused(self):
        for start in (-1, 2000, -17179869183, 17179869183):
            self.assertEqual(ask(new(7), new(start), told()), [[0], [-1], [0, 0, 0, 7, 0, 0, 0]])

    def test_a_refusal_leaves_drum_and_run(self):
        calls = [poke(0, order(10, 5, 1)), poke(5, -3), run(2), told(), peek(5)]
        before = ask(*calls)[-2:]
        self.assertEqual(ask(*calls, new(2000), told(), peek(5))[-3:], [[-1]] + before)

    def test_all_else_is_zero_behind_it(self):
        setting = [
            poke(0, order(10, 50, 1)), poke(50, WORD_MOST), poke(1, order(40, 20, 2)), poke(2, order(12, 50, 3)),
            poke(1999, 4), run(9),
        ]
        self.assertEqual(last(*setting, told()), [0, 1, 1, 3, 126, WORD_MOST, WORD_MOST])
        self.assertEqual(last(*setting, new(12), told()), [0, 0, 0, 12, 0, 0, 0])
        for a in (0, 1, 2, 50, 1999):
            self.assertEqual(last(*setting, new(12), peek(a)), [0, 0])

    def test_new_clears_every_address(self):
        for first in range(0, 2000, 125):
            addresses = range(first, first + 125)
            answered = ask(*[poke(a, a + 1) for a in addresses], new(0), *[peek(a) for a in addresses])
            self.assertEqual(answered, [[0]] * 126 + [[0, 0]] * 125)

    def test_a_stopped_machine_runs_again(self):
        self.assertEqual(ask(run(5), new(3), run(5), told()), [[0, 1, 0], [0], [0, 1, 0], [0, 1, 0, 3, 6, 0, 0]])


class TestPokeAndPeek(unittest.TestCase):
    def test_what_was_poked_is_peeked(self):
        for a in (0, 1, 39, 40, 1000, 1999):
            for v in (-WORD_MOST, -1, 0, 1, 5, WORD_MOST):
                self.assertEqual(ask(poke(a, v), peek(a)), [[0], [0, v]])

    def test_only_that_word_changes(self):
        self.assertEqual(ask(poke(40, 5), peek(39), peek(40), peek(41), peek(0)), [[0], [0, 0], [0, 5], [0, 0], [0, 0]])

    def test_poke_leaves_all_but_the_word(self):
        self.assertEqual(ask(poke(0, order(1, 0, 0)), run(3), poke(9, 4), told())[-1], [0, 0, 0, 0, 83, 0, 0])

    def test_poke_on_a_stopped_machine(self):
        self.assertEqual(ask(run(1), poke(0, 5), peek(0), told())[1:], [[0], [0, 5], [0, 1, 0, 0, 3, 0, 0]])

    def test_poke_outside_is_refused(self):
        for a in (-1, 2000, -2000, -17179869183, 17179869183):
            self.assertEqual(ask(poke(1999, 8), poke(0, 9), poke(a, 1), peek(1999), peek(0)),
                             [[0], [0], [-1], [0, 8], [0, 9]])

    def test_poke_of_no_word_is_refused(self):
        for v in (-WORD_MOST - 1, WORD_MOST + 1, -17179869183, 17179869183):
            self.assertEqual(ask(poke(3, 8), poke(3, v), peek(3)), [[0], [-1], [0, 8]])

    def test_peek_outside_is_refused(self):
        for a in (-1, 2000, -2000, -17179869183, 17179869183):
            self.assertEqual(ask(poke(1999, 8), peek(a), told()), [[0], [-1], [0, 0, 0, 0, 0, 0, 0]])


class TestTold(unittest.TestCase):
    def test_six_numbers_in_their_order(self):
        # The quotient 0 and the remainder tell A and D apart; the division that doesn't fit sets over.
        calls = [
            new(3), poke(3, order(10, 7, 4)), poke(7, -42), poke(4, order(21, 8, 6)), poke(8, 0),
            poke(6, order(18, 9, 11)), poke(9, 17), poke(11, -1), run(100), told(),
        ]
        self.assertEqual(ask(*calls)[-2:], [[0, 4, 0], [0, 2, 1, 11, 94, -42, 17]])

    def test_told_changes_nothing(self):
        self.assertEqual(ask(run(1), told(), told())[1:], [[0, 1, 0, 0, 3, 0, 0]] * 2)

    def test_told_behind_place(self):
        self.assertEqual(ask(run(1), place("HLT\n", [44]), told())[-1], [0, 0, 0, 44, 0, 0, 0])


if __name__ == "__main__":
    unittest.main()
