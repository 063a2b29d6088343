"""Drawn texts, whole and spoilt, held against the oracle's answers, and the promises of drawn copies."""

import random
import unittest

import oracle
from helper import chars, ideal_of_lines, shown
from makings import drawn_copies, drawn_signatures, spoilt, text_of
from quirecopies.copies import ideal

STUFF = "ABCZabz2019πχ*†J –¹²³⁴⁰(),−÷+⟨⟩|[]\nx"


class AgainstOracle(unittest.TestCase):

    def ask(self, text):
        self.assertEqual(shown(ideal(chars(text))), oracle.ideal(text), repr(text))

    def test_copies(self):
        draw = random.Random(1)
        for number in range(2000):
            self.ask(text_of(drawn_copies(draw)))

    def test_large_copies(self):
        draw = random.Random(2)
        for number in range(60):
            self.ask(text_of(drawn_copies(draw, 48)))

    def test_spoilt_copies(self):
        draw = random.Random(3)
        for number in range(1500):
            text = text_of(drawn_copies(draw, 4))
            for time in range(4):
                self.ask(spoilt(draw, text, STUFF))

    def test_every_short_beginning(self):
        for text in ("2A–2C⁴ π²(0+⟨[)⟩, −1, 1+3) χ⁴(÷1)", "A¹(−1, 1+⟨()⟩) B²"):
            for end in range(len(text) + 1):
                for char in [""] + list(STUFF):
                    self.ask(text[:end] + char)
                    self.ask(text[:end] + char + text[end:] + "\n")

    def test_drawn_stuff_behind_a_good_beginning(self):
        draw = random.Random(4)
        for number in range(6000):
            text = draw.choice(("", "A", "A²", "A² ", "A²(", "A⁴(−1, ", "A⁴(1+", "A⁴(1+⟨", "A–", "Y–2", "A²\n"))
            self.ask(text + "".join(draw.choice(STUFF) for step in range(draw.randrange(7))))

    def test_every_short_row_of_signs(self):
        for length in range(7):
            for number in range(5 ** length):
                signs = "".join("|()[]"[number // 5 ** k % 5] for k in range(length))
                good = oracle.paired(signs) and signs.strip("|") != ""
                line = f"A²(1+⟨{signs}⟩)"
                self.assertEqual(ideal_of_lines(line), line if good else [-6, 3])


def is_row_within(row, whole):
    rest = iter(whole)
    return all(signature in rest for signature in row)


class PromisesOfDrawnCopies(unittest.TestCase):

    def drawn(self, seed, many):
        draw = random.Random(seed)
        found = 0
        while found < many:
            copies = drawn_copies(draw, 12)
            lines = [oracle.written(quires) for quires in copies]
            whole = ideal_of_lines(*lines)
            if isinstance(whole, str):
                found += 1
                yield draw, copies, lines, whole

    def test_the_ideal_is_a_make_up_of_what_the_copies_have(self):
        for draw, copies, lines, whole in self.drawn(5, 400):
            self.assertIsNone(oracle.formula_fault(whole), whole)
            book = oracle.read(whole)
            order = [quire["signature"] for quire in book]
            self.assertEqual(sorted(order), sorted({quire["signature"] for quires in copies for quire in quires}))
            for quires in copies:
                self.assertTrue(is_row_within([quire["signature"] for quire in quires], order), (lines, whole))

    def test_nothing_is_kept_that_no_copy_keeps(self):
        for draw, copies, lines, whole in self.drawn(6, 400):
            for quire in oracle.read(whole):
                held = [other for quires in copies for other in quires if other["signature"] == quire["signature"]]
                for leaf in range(1, quire["size"] + 1):
                    kept = any(leaf not in other["states"] for other in held)
                    self.assertEqual(leaf not in quire["states"], kept)

    def test_the_same_in_whatever_order_the_copies_come(self):
        for draw, copies, lines, whole in self.drawn(7, 400):
            mixed = list(lines)
            draw.shuffle(mixed)
            self.assertEqual(ideal_of_lines(*mixed), whole)

    def test_no_ideal_in_whatever_order_the_copies_come(self):
        draw = random.Random(8)
        for number in range(600):
            lines = [oracle.written(quires) for quires in drawn_copies(draw, 6)]
            answer = ideal_of_lines(*lines)
            if not isinstance(answer, str):
                draw.shuffle(lines)
                self.assertEqual(ideal_of_lines(*lines)[:2], answer[:2])

    def test_ideal_of_the_ideal_and_a_copy(self):
        asked = 0
        for draw, copies, lines, whole in self.drawn(9, 600):
            put = {quire["signature"]: quire["put"] for quire in oracle.read(whole)}
            for quires, line in zip(copies, lines):
                if all(quire["put"] == put[quire["signature"]] for quire in quires):
                    asked += 1
                    self.assertEqual(ideal_of_lines(whole, line), whole)
                    self.assertEqual(ideal_of_lines(line, whole), whole)
        self.assertGreater(asked, 200)

    def test_of_copies_that_are_alike_it_is_they(self):
        for draw, copies, lines, whole in self.drawn(10, 300):
            for line in lines + [whole]:
                self.assertEqual(ideal_of_lines(line), line)
                self.assertEqual(ideal_of_lines(line, line, line), line)

    def test_many_signatures(self):
        draw = random.Random(11)
        signatures = list(drawn_signatures(draw, 48))
        lines = [oracle.written([{"signature": one, "size": 2, "states": {}, "put": {}}]) for one in signatures]
        for start in range(0, 48, 16):
            self.assertEqual(ideal_of_lines(*lines[start:start + 16]),
                             oracle.ideal("".join(line + "\n" for line in lines[start:start + 16])))


if __name__ == "__main__":
    unittest.main()
