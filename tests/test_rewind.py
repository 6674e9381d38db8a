"""Promise 7: rewind."""

import unittest

from asking import LONG_MOST, ask, drum_but_zeros, last, new, order, peek, place, poke, prepared, rewind, run, told


class TestRewind(unittest.TestCase):
    def check_rewind(self, calls, before):
        """Before it the calls' told is this; behind it all but N is 0, and the drum is as it was."""
        self.assertEqual(ask(*calls, told(), rewind(), told())[-3:], [[0] + before, [0], [0, 0, 0, before[2], 0, 0, 0]])
        self.assertEqual(drum_but_zeros(*calls, rewind()), drum_but_zeros(*calls))

    def overflown(self, word):
        """Over is 1, A and D aren't 0, and the word lies at 23, where the next order does."""
        return prepared(LONG_MOST, 0) + [poke(15, order(12, 20, 23)), poke(20, 5), poke(23, word), run(1)]

    def test_a_new_machine(self):
        self.check_rewind([], [0, 0, 0, 0, 0, 0])
        self.check_rewind([new(1999), poke(3, -4)], [0, 0, 1999, 0, 0, 0])

    def test_one_that_runs(self):
        self.check_rewind(self.overflown(order(1, 0, 23)), [0, 1, 23, 23, 4, 5])
        self.check_rewind(self.overflown(order(1, 0, 23)) + [run(1)], [0, 1, 23, 26, 4, 5])

    def test_one_that_an_order_stopped(self):
        self.check_rewind(self.overflown(0) + [run(1)], [1, 1, 23, 26, 4, 5])

    def test_one_that_a_fault_stopped(self):
        faulty = {2: -1, 3: order(99, 0, 0), 4: order(1, 0, 2000), 5: order(40, 21, 0), 6: order(70, 80, 0)}
        for state, word in faulty.items():
            self.check_rewind(self.overflown(word) + [run(1)], [state, 1, 23, 26, 4, 5])

    def test_it_runs_on_from_there(self):
        self.assertEqual(ask(run(1), run(1), rewind(), run(1), told()),
                         [[0, 1, 0], [0, 0, 0], [0], [0, 1, 0], [0, 1, 0, 0, 3, 0, 0]])
        calls = self.overflown(-1) + [run(1), poke(23, order(52, 700, 30)), rewind(), run(1)]
        self.assertEqual(last(*calls, told()), [0, 0, 0, 30, 27, 0, 0])

    def test_the_ticks_begin_anew(self):
        loop = [new(7), poke(7, order(1, 0, 7))]
        self.assertEqual(last(*loop, run(5), rewind(), run(2), told()), last(*loop, run(2), told()))

    def test_stored_words_stay(self):
        calls = [place("LDA w\nADD w\nSTL w\nHLT\nw = 8\n", [0, 1, 2, 3, 9]), run(9), rewind()]
        self.assertEqual(ask(*calls, peek(9), told())[-2:], [[0, 16], [0, 0, 0, 3, 0, 0, 0]])

    def test_twice(self):
        self.assertEqual(last(new(5), run(1), rewind(), rewind(), told()), [0, 0, 0, 5, 0, 0, 0])


if __name__ == "__main__":
    unittest.main()
