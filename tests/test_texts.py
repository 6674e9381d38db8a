"""Promise 4: which texts are a program's, and the first fault of those that aren't."""

import unittest

from asking import ask, place, run, told
from drumback.lines import rows_of_text
from drumback.program import first_fault

FORTY = " ".join(["5"] * 40)
EIGHT = " ".join(["5"] * 8)


def fault(text):
    return first_fault(rows_of_text(list(text.encode("latin-1"))))


class TextTest(unittest.TestCase):
    def check_fault(self, text, kind, line):
        with self.subTest(text=text[:60]):
            self.assertEqual(fault(text), (kind, line))
            self.assertEqual(ask(run(1), place(text, []), told()), [[0, 1, 0], [-6], [0, 1, 0, 0, 3, 0, 0]])

    def check_program(self, text):
        with self.subTest(text=text[:60]):
            self.assertIsNone(fault(text))
            placing = [40 * (item % 50) + item // 50 for item in range(text.count("\n"))]
            self.assertNotEqual(ask(place(text, placing)), [[-6]])


class TestShapes(TextTest):
    def check_line(self, line, good):
        """Is the line of a shape? It stands first; behind it is all that it may speak of."""
        text = line + "\nx: NOP -> x\nh: HLT\nw = " + FORTY + "\n"
        if good:
            self.check_program(text)
        else:
            self.check_fault(text, 1, 0)

    def check_lines(self, lines, good):
        for line in lines:
            self.check_line(line, good)

    def test_orders_without_operand(self):
        self.check_lines(("HLT", "a: HLT", "NOP", "a: NOP", "NOP -> x", "a: NOP -> x", "a: NOP -> a"), True)
        self.check_lines(("SCT", "a: SCT", "SCT -> x", "a: SCT -> x"), True)
        self.check_lines(("HLT -> x", "a: HLT -> x", "HLT x", "NOP x", "NOP 0", "NOP x -> x", "SCT 3", "SCT w"), False)

    def test_orders_of_words(self):
        for letters in ("LDA", "LDN", "ADD", "SUB", "ADM", "SBM", "ADU", "SBU", "LDD", "MUL", "DIV", "STL", "STU", "STD"):
            for form in ("{} w", "a: {} w", "{} w -> x", "a: {} w -> x", "{} w+1", "{} w+9 -> h", "a: {} w+39 -> x"):
                self.check_line(form.format(letters), True)
        for letters in ("LDA", "DIV", "STD", "TLU", "RDC", "PCH"):
            for form in ("{}", "{} -> x", "{} 5", "{} w w", "{} w +1", "{} w+ 1", "{} w + 1", "{} w+", "{} +1", "{} w+0",
                         "{} w+00", "{} w+01", "{} w+40", "{} w+99999", "{} w+1+1", "{} w-1", "{} w+-1", "{} w+a",
                         "{} W", "{} w:", "{} w+1w", "{} w+" + "9" * 5000):
                self.check_line(form.format(letters), False)

    def test_orders_of_look_up_and_cards(self):
        for letters in ("TLU", "RDC", "PCH"):
            self.check_lines((letters + " w", "a: " + letters + " w", letters + " w -> x"), True)

    def test_jumps(self):
        for letters in ("BMI", "BNZ", "BOV"):
            for form in ("{} x", "{} h -> x", "a: {} a", "a: {} a -> a"):
                self.check_line(form.format(letters), True)
            for form in ("{}", "{} 5", "{} -> x", "{} x+1", "{} x x", "{} x+", "{} X"):
                self.check_line(form.format(letters), False)

    def test_shifts(self):
        for letters in ("SHL", "SHR", "SRR"):
            for number in range(21):
                self.check_line(f"{letters} {number}", True)
            self.check_line(letters + " 7 -> x", True)
            self.check_line("a: " + letters + " 20 -> x", True)
            for number in ("", " 21", " 00", " 07", " -1", " -0", " +1", " 100", " x", " w", " 1 2", " " + "1" * 5000):
                self.check_line(letters + number, False)

    def test_letters(self):
        self.check_lines(("nop", "Nop", "NOPE", "NO", "XYZ", "01", "N", "a", "a NOP", "NOP:", "NOPNOP"), False)

    def test_next_order(self):
        self.check_lines(("NOP ->", "NOP ->x", "NOP - > x", "NOP -> ", "NOP -> x x", "NOP -> x -> x", "-> x", "a: -> x",
                          "NOP => x", "NOP > x", "NOP - x", "NOP->x", "NOP -> X", "NOP -> x+1", "NOP -> 5", "NOP x ->"),
                         False)

    def test_names(self):
        for name in ("a", "z", "a0", "a1999", "abcdefghijkl", "a23456789012", "nop", "zz9z"):
            self.check_lines((name + ": NOP", name + " = 1"), True)
        for name in ("", "0", "1a", "A", "aB", "a_b", "a-b", "a.b", "abcdefghijklm", "\xe9", "a\xe9", "a?", "?"):
            self.check_lines((name + ": NOP", name + " = 1", "LDA " + name, "NOP -> " + name, "BMI " + name), False)
        self.check_lines(("a:NOP", "a : NOP", "a:: NOP", "a: b: NOP", "a:", "a: ", ":"), False)

    def test_numbers(self):
        for words in ("0", "1", "-1", "9999999999", "-9999999999", "1 2 3", "10", "-10", FORTY, EIGHT):
            self.check_line("a = " + words, True)
        for words in ("", " ", "x", "00", "01", "-0", "-01", "-00", "+1", "--1", "-", "10000000000", "-10000000000",
                      "1  2", "1 ", " 1", "1.5", "1e3", "1_0", "1,2", "1 x", "1 -> x", FORTY + " 5", "\xb2", "5" * 5000):
            self.check_line("a = " + words, False)
        self.check_lines(("a =", "a=1", "a =1", "a= 1", "= 1", "a 1", "a == 1", "a: = 1", "a := 1", "a = = 1"), False)

    def test_blanks(self):
        self.check_lines((" NOP", "NOP ", "NOP  -> x", "a:  NOP", "LDA  w", "NOP ->  x", "", " ", "\t", "NOP\r", "NOP\t",
                          "NOP\0", "LDA\xa0w", "a =  1"), False)

    def test_every_byte_that_no_line_has(self):
        for code in range(256):
            if chr(code) not in "\n abcdefghijklmnopqrstuvwxyzABCDEFGHIJKLMNOPQRSTUVWXYZ0123456789:->+=":
                self.check_line("NOP" + chr(code), False)
                self.check_line("a" + chr(code) + ": NOP", False)

    def test_behind_the_last_line(self):
        self.check_fault("HLT", 1, 0)
        self.check_fault("HLT\nHLT", 1, 1)
        self.check_fault("HLT\n ", 1, 1)
        self.check_fault("HLT\n\n", 1, 1)
        self.check_fault("\nHLT\n", 1, 0)
        self.check_program("HLT\n")


class TestNamesTwice(TextTest):
    def test_told_again(self):
        self.check_fault("a: HLT\na: HLT\n", 2, 1)
        self.check_fault("a = 1\nHLT\na = 1\n", 2, 2)
        self.check_fault("a = 1\na: HLT\na = 1\n", 2, 1)
        self.check_fault("b: HLT\na: HLT\na = 1\nb = 1\n", 2, 2)

    def test_unnamed_orders_are_no_fault(self):
        self.check_program("HLT\nHLT\nHLT\n")


class TestOperands(TextTest):
    def test_no_such_item(self):
        self.check_fault("LDA a\nHLT\n", 3, 0)
        self.check_fault("HLT\nBMI a\nHLT\n", 3, 1)

    def test_the_other_sort(self):
        self.check_fault("a: LDA a\nHLT\n", 3, 0)
        self.check_fault("HLT\nBNZ w\nHLT\nw = 1\n", 3, 1)
        self.check_fault("x: HLT\nPCH x\nHLT\n", 3, 1)
        self.check_fault("x: HLT\nTLU x\nHLT\n", 3, 1)

    def test_a_word_that_the_item_has_not(self):
        self.check_program("LDA w+2\nHLT\nw = 1 2 3\n")
        self.check_fault("LDA w+3\nHLT\nw = 1 2 3\n", 3, 0)
        self.check_fault("HLT\nSTD w+1\nHLT\nw = 1\n", 3, 1)
        self.check_program("w = " + FORTY + "\nLDA w+39\nHLT\n")

    def test_look_ups(self):
        self.check_program("TLU w\nHLT\nw = " + FORTY + "\n")
        self.check_fault("TLU w\nHLT\nw = " + FORTY[2:] + "\n", 3, 0)
        self.check_fault("TLU w+1\nHLT\nw = " + FORTY + "\n", 3, 0)

    def test_cards(self):
        for letters in ("RDC", "PCH"):
            self.check_program(letters + " w\nHLT\nw = " + EIGHT + "\n")
            self.check_program(letters + " w\nHLT\nw = " + EIGHT + " 9\n")
            self.check_program(letters + " w\nHLT\nw = " + FORTY + "\n")
            self.check_fault(letters + " w\nHLT\nw = " + EIGHT[2:] + "\n", 3, 0)
            self.check_fault(letters + " w+1\nHLT\nw = " + EIGHT + " 9\n", 3, 0)

    def test_the_first_line(self):
        self.check_fault("NOP\nLDA a\nLDA b\nHLT\n", 3, 1)


class TestNextOrders(TextTest):
    def test_no_order_of_that_name(self):
        self.check_fault("NOP -> a\n", 4, 0)
        self.check_fault("HLT\nNOP -> w\nNOP -> v\nw = 1\n", 4, 1)

    def test_no_order_line_behind(self):
        self.check_fault("NOP\n", 5, 0)
        self.check_fault("HLT\nNOP\nw = 1\n", 5, 1)
        self.check_fault("a: BMI a\n", 5, 0)
        self.check_program("a: NOP -> a\n")
        self.check_program("a: NOP\nw = 1\nHLT\n")
        self.check_program("HLT\nw = 1\n")


class TestSize(TextTest):
    def test_items(self):
        self.check_program("HLT\n" * 400)
        self.check_fault("HLT\n" * 401, 6, 400)
        self.check_fault("HLT\n" * 500, 6, 400)

    def rows(self, count):
        return "".join(["w%d = %s\n" % (line, FORTY) for line in range(count)])

    def test_words(self):
        self.check_program(self.rows(49) + "HLT\n" * 40)
        self.check_fault(self.rows(49) + "HLT\n" * 41, 6, 89)
        self.check_fault(self.rows(50) + "HLT\n" * 3, 6, 50)
        self.check_fault(self.rows(49) + "HLT\nv = " + FORTY + "\nHLT\n", 6, 50)
        self.check_program(self.rows(49) + "HLT\nv = " + FORTY[2:] + "\n")

    def test_no_order(self):
        self.check_fault("", 7, 0)
        self.check_fault("w = 1\n", 7, 1)
        self.check_fault("w = 1\nv = 1\n", 7, 2)


class TestLeastKind(TextTest):
    def test_the_least_kind_goes_first(self):
        self.check_fault("NOP -> no\nLDA no\na: HLT\na: HLT\nnonsense\nNOP\n", 1, 4)
        self.check_fault("NOP -> no\nLDA no\na: HLT\na: HLT\nNOP\n", 2, 3)
        self.check_fault("NOP -> no\nLDA no\nNOP\n", 3, 1)
        self.check_fault("NOP\nNOP -> no\nNOP\n", 4, 1)
        self.check_fault("NOP -> no\n" + "HLT\n" * 400 + "NOP\n", 4, 0)

    def test_no_next_order_ahead_of_too_many(self):
        self.check_fault("HLT\n" * 401 + "NOP\n", 5, 401)

    def test_too_many_ahead_of_no_order(self):
        self.check_fault("".join(["w%d = 1\n" % line for line in range(401)]), 6, 400)


if __name__ == "__main__":
    unittest.main()
