"""Promises 8 to 11 over many images, beside a plain reading of the document that goes through all pairs."""

import itertools
import random
import unittest

from asking import WORD_MOST, ask, image, order, place, placing, reach, rewind, run, text, told, why

LETTERS = dict(zip(
    (0, 1, 10, 11, 12, 13, 14, 15, 16, 17, 18, 20, 21, 30, 31, 32, 40, 41, 42, 43, 50, 51, 52, 60, 70, 71),
    "HLT NOP LDA LDN ADD SUB ADM SBM ADU SBU LDD MUL DIV STL STU STD SHL SHR SRR SCT BMI BNZ BOV TLU RDC PCH".split()))


class Plain:
    """An image taken apart without any haste."""

    def __init__(self, n, words):
        self.n = n
        self.words = words
        self.orders = {n}
        before = None
        while before != self.orders:
            before = set(self.orders)
            for a in before:
                self.orders |= self.ways(a)
        self.uses = [(a, *self.parts(a)[:2]) for a in sorted(self.orders) if not self.faulty(a)]
        self.used = set().union(*[self.span(code, d) for a, code, d in self.uses])

    def parts(self, a):
        digits = "%010d" % self.words.get(a, 0)
        return int(digits[:2]), int(digits[2:6]), int(digits[6:])

    def faulty(self, a):
        if self.words.get(a, 0) < 0:
            return True
        code, d, n = self.parts(a)
        return (code not in LETTERS or (code != 0 and n > 1999) or (code not in (0, 1, 40, 41, 42, 43) and d > 1999)
                or (code in (40, 41, 42) and d > 20))

    def ways(self, a):
        if self.faulty(a):
            return set()
        code, d, n = self.parts(a)
        return {0: set(), 50: {n, d}, 51: {n, d}, 52: {n, d}}.get(code, {n})

    def around(self, d, count):
        return [d // 40 * 40 + (d % 40 + k) % 40 for k in range(count)]

    def span(self, code, d):
        if 10 <= code <= 32:
            return {d}
        return set(self.around(d, {60: 40, 70: 8, 71: 8}.get(code, 0)))

    def marks(self):
        told_of = []
        for a in sorted(self.orders | self.used):
            told_of += [a, (a in self.orders) + 2 * (a in self.used)]
        return told_of

    def clashes(self):
        found = []
        for (a, first, d), (b, second, e) in itertools.permutations(self.uses, 2):
            if d != e and first == second == 60 and d // 40 == e // 40:
                found.append(max(d, e))
            if d != e and first in (70, 71) and second in (70, 71) and self.span(first, d) & self.span(second, e):
                found.append(max(d, e))
            if d != e and first in (70, 71) and second == 60 and d // 40 == e // 40:
                found.append(d)
        return found

    def items(self):
        """Of each item of numbers its words' addresses."""
        forties = {d: self.around(d, 40) for a, code, d in self.uses if code == 60}
        taken = {a for item in forties.values() for a in item}
        eights = {d: self.around(d, 8) for a, code, d in self.uses if code in (70, 71) and d not in taken}
        taken |= {a for item in eights.values() for a in item}
        return {**forties, **eights, **{a: [a] for a in self.used - taken}}

    def why(self):
        faulty = [a for a in self.orders if self.faulty(a)]
        if faulty:
            return [1, min(faulty)]
        if self.orders & self.used:
            return [2, min(self.orders & self.used)]
        if self.clashes():
            return [3, min(self.clashes())]
        return [4, 0] if len(self.orders) + len(self.items()) > 400 else [0, 0]

    def operand(self, a):
        code, d, n = self.parts(a)
        if code in (0, 1, 43):
            return ""
        if code in (40, 41, 42):
            return " %d" % d
        if code in (50, 51, 52):
            return " a%d" % d
        for start, item in self.items().items():
            if d in item:
                return " a%d+%d" % (start, item.index(d)) if d != start else " a%d" % d

    def line(self, a):
        if a in self.orders:
            code, d, n = self.parts(a)
            return "a%d: %s%s%s\n" % (a, LETTERS[code], self.operand(a), " -> a%d" % n if code else "")
        return "a%d = %s\n" % (a, " ".join([str(self.words.get(b, 0)) for b in self.items()[a]]))

    def placing(self):
        return [self.n] + sorted((self.orders | set(self.items())) - {self.n})

    def text(self):
        return "".join([self.line(a) for a in self.placing()])


def any_word(source):
    return source.choice((0, 1, -1, WORD_MOST, -WORD_MOST, source.randrange(-99, 99),
                          source.randrange(-WORD_MOST, WORD_MOST + 1)))


def random_data(source, code, spots, homes):
    """A data address for the code: an order's of a jump, of 60 to 71 one of the homes, of 10 to 32 one beside them."""
    if code in (40, 41, 42):
        return source.randrange(21)
    if code in (50, 51, 52):
        return source.choice(spots)
    if code in (0, 1, 43):
        return source.randrange(10000)
    home = source.choice(homes)
    return home if code >= 60 else home // 40 * 40 + source.randrange(40)


def random_image(source, faults):
    """Orders and data in few places, so that they meet now and then; with faults, any words among the orders."""
    bands = source.sample(range(50), 5)
    homes = [40 * source.choice(bands[3:]) + source.randrange(40) for _ in range(source.randrange(2, 6))]
    if source.random() < 0.4:
        # Each band has one place at which eights and forties begin, so that most of these images can be listed.
        homes = [40 * band + source.randrange(40) for band in bands[2:]]
    spots = source.sample([40 * band + k for band in bands[:2] for k in range(40)], source.randrange(1, 24))
    words = {40 * band + k: any_word(source) for band in bands[2:] for k in range(40) if source.random() < 0.5}
    for k, spot in enumerate(spots):
        code = source.choice(list(LETTERS)[1:] + [60, 70, 71] * 3)
        behind = source.choice(spots) if source.random() < 0.1 else spots[(k + 1) % len(spots)]
        words[spot] = order(code, random_data(source, code, spots, homes), behind)
        if faults and source.random() < 0.1:
            words[spot] = source.choice((any_word(source), order(code, 2000, 0), order(40, 21, 0),
                                         order(10, spot, behind), order(31, source.choice(spots), behind), 0))
    return source.choice(spots), words


class TestManyImages(unittest.TestCase):
    def check_image(self, n, words):
        """All four calls answer as the plain reading does; the kind that why told is answered."""
        plain = Plain(n, words)
        expected = plain.why()
        answered = ask(*image(n, words), reach(), why(), text(), placing())[-4:]
        self.assertEqual(answered[:2], [[0] + plain.marks(), [0] + expected])
        if expected[0] == 0:
            self.assertEqual(bytes(answered[2][1:]).decode("ascii"), plain.text())
            self.assertEqual(answered[2:], [[0] + answered[2][1:], [0] + plain.placing()])
            self.check_read_back(image(n, words), answered[2][1:], answered[3][1:])
        else:
            self.assertEqual(answered[2:], [[-9], [-9]])
        return expected[0]

    def check_read_back(self, calls, codes, addresses):
        cards = list(range(-16, 16))
        again = [place(codes, addresses)]
        self.assertEqual(ask(*again, text(), placing(), run(60, cards), told())[1:],
                         [[0] + codes, [0] + addresses] + ask(*calls, rewind(), run(60, cards), told())[-2:])

    def check_images(self, seed, faults, kinds):
        source = random.Random(seed)
        found = {}
        for turn in range(400):
            n, words = random_image(source, faults)
            with self.subTest(seed=seed, turn=turn):
                kind = self.check_image(n, words)
                found[kind] = found.get(kind, 0) + 1
        for kind in kinds:
            self.assertGreater(found.get(kind, 0), 20, found)

    def test_images_without_faults(self):
        self.check_images(1, False, (0, 3))

    def test_images_with_faults(self):
        self.check_images(2, True, (0, 1, 2, 3))


if __name__ == "__main__":
    unittest.main()
