"""The calls: each takes lists of characters and answers one list of whole numbers."""

from quirecopies.accidents import accident_lines
from quirecopies.faults import NoIdeal, NotOfBook, TextFault
from quirecopies.formula_reader import read_copies, read_formula
from quirecopies.formula_writer import formula_text
from quirecopies.ideal_book import ideal_of


# The ideal's formula, of copies t: how many characters, then these; else a refusal.
def ideal(t):
    try:
        quires = ideal_of(read_copies(t))
    except TextFault as fault:
        return [-6, fault.place]
    except NoIdeal as lack:
        return [-1, lack.why, lack.first, lack.second]
    return text_answer(formula_text(quires))


# The lines of copy u's accidents against book t: how many characters, then these; else a refusal.
def tell(t, u):
    try:
        book = read_formula(t, 0, len(t))
        copy = read_formula(u, 0, len(u))
        lines = accident_lines(book, copy)
    except TextFault:
        return [-6]
    except NotOfBook:
        return [-4]
    return lines_answer(lines)


def lines_answer(lines):
    text = []
    for line in lines:
        text.extend(line)
    return text_answer(text)


def text_answer(text):
    return [len(text)] + text
