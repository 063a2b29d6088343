"""The calls: each takes lists of characters and answers one list of whole numbers."""

from quirecopies.accidents import accident_lines
from quirecopies.faults import NoIdeal, NotOfBook, TextFault
from quirecopies.formula_reader import read_copies, read_formula
from quirecopies.formula_writer import formula_text
from quirecopies.ideal_book import ideal_of
from quirecopies.line_doer import do_lines
from quirecopies.marks import LINE_FEED


# The ideal's formula, of copies t: how many characters, then these; else a refusal.
def ideal(t):
    try:
        quires = ideal_of(read_copies(t))
    except TextFault as fault:
        return [-6, fault.place]
    except NoIdeal as lack:
        return [-1, lack.why, lack.first, lack.second]
    return text_answer(formula_text(quires))


# The lines of copy u's accidents against book t: how many characters, then these; else a refusal.
def tell(t, u):
    try:
        book = read_formula(t, 0, len(t))
        copy = read_formula(u, 0, len(u))
        lines = accident_lines(book, copy)
    except TextFault:
        return [-6]
    except NotOfBook:
        return [-4]
    return lines_answer(lines)


# The formula of what comes of book t by the lines u: how many characters, then these; else a refusal.
def do(t, u):
    try:
        quires = read_formula(t, 0, len(t))
    except TextFault:
        return [-6]
    try:
        do_lines(quires, u)
    except TextFault as fault:
        return [-3, fault.place]
    return text_answer(formula_text(quires))


# How many lines tell has of book t and copy u; else a refusal, as tell's.
def count(t, u):
    answer = tell(t, u)
    if answer[0] < 0:
        return answer
    text = answer[1:]
    return [text.count(LINE_FEED)]


# The lines of the accidents of copy k, from 0, of copies t against their ideal, as tell's; else a refusal.
def befell(k, t):
    try:
        copies = read_copies(t)
        book = ideal_of(copies)
    except TextFault:
        return [-6]
    except NoIdeal:
        return [-1]
    if k >= len(copies):
        return [-4]
    return lines_answer(accident_lines(book, copies[k]))


def lines_answer(lines):
    text = []
    for line in lines:
        text.extend(line)
    return text_answer(text)


def text_answer(text):
    return [len(text)] + text
