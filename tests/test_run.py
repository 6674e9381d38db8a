"""Promise 5: how many orders, cards, faults, and what a run answers."""

import unittest

from asking import LONG_MOST, WORD_MOST, ask, drum_but_zeros, last, new, order, peek, poke, prepared, run, told
from drumback.machine import Deck, Machine
from drumback.running import run_orders

CODES = (0, 1, 10, 11, 12, 13, 14, 15, 16, 17, 18, 20, 21, 30, 31, 32, 40, 41, 42, 43, 50, 51, 52, 60, 70, 71)
WITHOUT_ADDRESS = (0, 1, 40, 41, 42, 43)
CARD = [1, -2, 3, WORD_MOST, -WORD_MOST, 0, 7, 8]


class TestStops(unittest.TestCase):
    def check_stop(self, word, state, cards=()):
        """The order word at 15 stops the machine in this state, and all else is as it was."""
        with self.subTest(word=word, state=state):
            calls = prepared(-5, 6) + [poke(15, word)]
            answered = ask(*calls, run(9, cards), told(), run(9, CARD), told())
            self.assertEqual(answered[-4:], [
                [0, 1, 0], [0, state, 0, 15, 18, -5, 6], [0, 0, 0], [0, state, 0, 15, 18, -5, 6],
            ])

    def check_no_stop(self, word):
        with self.subTest(word=word):
            calls = prepared(-5, 6) + [poke(15, word), run(1, CARD), told()]
            self.assertEqual(last(*calls)[:2], [0, 0])

    def test_hlt(self):
        for word in (0, 1, order(0, 0, 2000), order(0, 9999, 9999)):
            self.check_stop(word, 1)

    def test_below_0(self):
        for word in (-1, -order(1, 0, 30), -order(99, 9999, 9999), -WORD_MOST):
            self.check_stop(word, 2)

    def test_no_such_code(self):
        for code in range(100):
            if code not in CODES:
                self.check_stop(order(code, 0, 0), 3)
                self.check_stop(order(code, 9999, 9999), 3)

    def test_next_address_too_great(self):
        for code in CODES:
            if code != 0:
                self.check_stop(order(code, 0, 2000), 4)
                self.check_stop(order(code, 20, 9999), 4)
                self.check_no_stop(order(code, 0, 1999))

    def test_data_address_too_great(self):
        for code in CODES:
            if code not in WITHOUT_ADDRESS:
                self.check_stop(order(code, 2000, 30), 4)
                self.check_stop(order(code, 9999, 30), 4)
                self.check_no_stop(order(code, 1999, 30))

    def test_data_that_is_no_address(self):
        for code in (1, 43):
            self.check_no_stop(order(code, 2000, 30))
            self.check_no_stop(order(code, 9999, 30))

    def test_shifted_too_far(self):
        for code in (40, 41, 42):
            self.check_stop(order(code, 21, 30), 5)
            self.check_stop(order(code, 9999, 30), 5)
            self.check_no_stop(order(code, 20, 30))

    def test_no_card(self):
        self.check_stop(order(70, 20, 30), 6)

    def test_the_first_fault_that_holds(self):
        self.check_stop(order(40, 21, 2000), 4)
        self.check_stop(order(70, 2000, 30), 4)
        self.check_stop(order(70, 20, 2000), 4)

    def test_a_fault_leaves_the_drum(self):
        calls = prepared(-5, 6) + [poke(15, order(30, 20, 2000))]
        self.assertEqual(drum_but_zeros(*calls, run(9)), drum_but_zeros(*calls))

    def test_a_fault_leaves_over(self):
        calls = prepared(LONG_MOST, 0) + [poke(15, order(12, 20, 23)), poke(20, 1), poke(23, -1), run(9)]
        self.assertEqual(ask(*calls, told())[-2:], [[0, 2, 0], [0, 2, 1, 23, 26, 0, 1]])

    def test_a_stopping_order_is_waited_for(self):
        self.assertEqual(last(new(1999), run(1), told()), [0, 1, 0, 1999, 42, 0, 0])
        self.assertEqual(last(new(45), poke(45, -1), run(1), told()), [0, 2, 0, 45, 8, 0, 0])

    def test_a_mended_order_does_not_start_it_again(self):
        self.assertEqual(ask(poke(0, -1), run(1), poke(0, order(1, 0, 0)), run(5), told())[-2:],
                         [[0, 0, 0], [0, 2, 0, 0, 3, 0, 0]])


class TestOrdersBegun(unittest.TestCase):
    def test_so_many_at_most(self):
        loop = poke(0, order(1, 0, 0))
        self.assertEqual(ask(loop, run(0), told())[1:], [[0, 0, 0], [0, 0, 0, 0, 0, 0, 0]])
        self.assertEqual(ask(loop, run(1), told())[1:], [[0, 1, 0], [0, 0, 0, 0, 3, 0, 0]])
        self.assertEqual(ask(loop, run(10000), told())[1:], [[0, 10000, 0], [0, 0, 0, 0, 399963, 0, 0]])

    def test_outside_is_refused(self):
        for orders in (-1, 10001, -17179869183, 17179869183):
            self.assertEqual(ask(poke(0, order(1, 0, 0)), run(orders), told())[1:], [[-1], [0, 0, 0, 0, 0, 0, 0]])

    def test_refused_on_a_stopped_machine_too(self):
        self.assertEqual(ask(run(1), run(10001), run(0), run(10000))[1:], [[-1], [0, 0, 0], [0, 0, 0]])

    def test_one_that_stops_counts(self):
        self.assertEqual(ask(poke(0, order(1, 0, 1)), poke(1, order(1, 0, 2)), run(3), told())[2:],
                         [[0, 3, 0], [0, 1, 0, 2, 85, 0, 0]])
        self.assertEqual(ask(poke(0, order(1, 0, 1)), poke(1, order(1, 0, 2)), run(2), told())[2:],
                         [[0, 2, 0], [0, 0, 0, 2, 44, 0, 0]])


class TestCards(unittest.TestCase):
    def test_a_card_is_read(self):
        calls = prepared(-5, 6) + [poke(15, order(70, 1000, 30))]
        before = drum_but_zeros(*calls)
        answered = ask(*calls, run(1, CARD), told())
        self.assertEqual(answered[-2:], [[0, 1, 1], [0, 0, 0, 30, 78, -5, 6]])
        for k in (0, 1, 2, 3, 4, 6, 7):
            before[1000 + k] = CARD[k]
        self.assertEqual(drum_but_zeros(*calls, run(1, CARD)), before)

    def test_a_card_is_read_around_the_band(self):
        peeks = [peek(a) for a in (1035, 1036, 1037, 1038, 1039, 1000, 1001, 1002, 1003, 1004, 1040)]
        answered = ask(*prepared(0, 0), poke(15, order(70, 1036, 30)), run(1, CARD), *peeks)[-11:]
        self.assertEqual(answered, [[0, 0]] + [[0, word] for word in CARD] + [[0, 0], [0, 0]])

    def test_a_card_is_punched(self):
        pokes = [poke(1000 + k, CARD[k]) for k in range(8)] + [poke(1008, 5), poke(999, 5)]
        calls = prepared(-5, 6) + pokes + [poke(15, order(71, 1000, 30))]
        self.assertEqual(ask(*calls, run(1), told())[-2:], [[0, 1, 0] + CARD, [0, 0, 0, 30, 78, -5, 6]])
        self.assertEqual(drum_but_zeros(*calls, run(1)), drum_but_zeros(*calls))

    def test_a_card_is_punched_around_the_band(self):
        pokes = [poke(a, a) for a in (1036, 1037, 1038, 1039, 1000, 1001, 1002, 1003, 1004, 1035, 1040)]
        self.assertEqual(last(*prepared(0, 0), *pokes, poke(15, order(71, 1036, 30)), run(1)),
                         [0, 1, 0, 1036, 1037, 1038, 1039, 1000, 1001, 1002, 1003])

    def test_cards_wait_for_nothing(self):
        for code in (70, 71):
            for data in (1017, 1018, 1019):
                self.assertEqual(last(*prepared(-5, 6), poke(15, order(code, data, 30)), run(1, CARD), told()),
                                 [0, 0, 0, 30, 78, -5, 6])

    def test_cards_in_turn(self):
        words = list(range(1, 25))
        loop = [poke(0, order(70, 80, 1)), poke(1, order(71, 80, 0))]
        self.assertEqual(ask(*loop, run(100, words), told())[2:],
                         [[0, 7, 3] + words, [0, 6, 0, 0, 483, 0, 0]])

    def test_the_cards_are_those_of_the_run(self):
        loop = [poke(0, order(70, 80, 0))]
        self.assertEqual(ask(*loop, run(1, CARD * 2), run(1), told())[1:], [[0, 1, 1], [0, 1, 0], [0, 6, 0, 0, 83, 0, 0]])
        self.assertEqual(ask(*loop, run(1, CARD * 2), run(1, [9] * 8), peek(80))[1:], [[0, 1, 1], [0, 1, 1], [0, 9]])

    def test_cards_of_a_run_of_no_orders_are_gone(self):
        self.assertEqual(ask(poke(0, order(70, 80, 0)), run(0, CARD), run(1))[1:], [[0, 0, 0], [0, 1, 0]])

    def test_punched_words_are_those_of_the_run(self):
        loop = [poke(0, order(71, 80, 0)), poke(80, 4)]
        self.assertEqual(ask(*loop, run(2), run(1))[2:], [[0, 2, 0] + [4, 0, 0, 0, 0, 0, 0, 0] * 2,
                                                          [0, 1, 0, 4, 0, 0, 0, 0, 0, 0, 0]])

    def test_so_many_words_at_most(self):
        loop = poke(0, order(70, 80, 0))
        self.assertEqual(ask(loop, run(10000, [7] * 512)), [[0], [0, 65, 64]])
        for count in (513, 519, 520, 600):
            self.assertEqual(ask(loop, run(1, [7] * count), told())[1:], [[-1], [0, 0, 0, 0, 0, 0, 0]])

    def test_no_multiple_of_eight(self):
        for count in (1, 7, 9, 15, 511):
            self.assertEqual(ask(poke(0, order(70, 80, 0)), run(1, [7] * count), peek(80), told())[1:],
                             [[-1], [0, 0], [0, 0, 0, 0, 0, 0, 0]])

    def test_no_word(self):
        for wrong in (WORD_MOST + 1, -WORD_MOST - 1, 17179869183, -17179869183):
            for k in (0, 7, 15):
                words = CARD + CARD
                words[k] = wrong
                self.assertEqual(ask(poke(0, order(70, 80, 0)), run(1, words), peek(80), told())[1:],
                                 [[-1], [0, 0], [0, 0, 0, 0, 0, 0, 0]])

    def test_wrong_cards_on_a_stopped_machine(self):
        self.assertEqual(ask(run(1), run(1, [7]), run(1, [WORD_MOST + 1] * 8), told())[1:],
                         [[-1], [-1], [0, 1, 0, 0, 3, 0, 0]])


class TestTicksWithoutEnd(unittest.TestCase):
    """So late a tick no list of calls comes to, so the machine is set to it."""

    def machine_at(self, tick, word):
        machine = Machine(0)
        machine.t = tick
        machine.drum[0] = word
        run_orders(machine, 1, Deck([]))
        return machine

    def test_ticks_begin_anew(self):
        # 2^64 is 16 modulo 40: place 0 is read at 2^64 + 24.
        self.assertEqual(self.machine_at(2 ** 64 - 1, order(1, 0, 0)).t, 27)
        self.assertEqual(self.machine_at(2 ** 64 - 1, order(0, 0, 0)).t, 27)
        # Within the order it goes on from there, so that place 28 comes by at 2^64 + 52.
        self.assertEqual(self.machine_at(2 ** 64 - 1, order(18, 28, 0)).t, 53)

    def test_the_last_tick(self):
        # 2^64 - 16 is 0 modulo 40.
        self.assertEqual(self.machine_at(2 ** 64 - 16, order(40, 10, 0)).t, 2 ** 64 - 1)
        self.assertEqual(self.machine_at(2 ** 64 - 16, order(40, 11, 0)).t, 0)
        self.assertEqual(self.machine_at(2 ** 64 - 16, order(18, 10, 0)).t, 2 ** 64 - 5)


if __name__ == "__main__":
    unittest.main()
