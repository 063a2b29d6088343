"""The calls: each takes lists of characters and answers one list of whole numbers."""

from quirecopies.faults import NoIdeal, TextFault
from quirecopies.formula_reader import read_copies
from quirecopies.formula_writer import formula_text
from quirecopies.ideal_book import ideal_of


# The ideal's formula, of copies t: how many characters, then these; else a refusal.
def ideal(t):
    try:
        quires = ideal_of(read_copies(t))
    except TextFault as fault:
        return [-6, fault.place]
    except NoIdeal as lack:
        return [-1, lack.why, lack.first, lack.second]
    text = formula_text(quires)
    return [len(text)] + text
