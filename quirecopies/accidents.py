"""The accidents of a copy against a book, each a line of characters."""

from quirecopies.faults import NotOfBook
from quirecopies.formula_writer import put_in_text
from quirecopies.marks import BLANK, DIGITS, DOT, GREATER, LINE_FEED, PLUS, STATE_MARKS, TILDE, number_text
from quirecopies.moves import places_to_move
from quirecopies.quires import sizes_by_signature
from quirecopies.signatures import signature_text


# The lines in their order; NotOfBook, if the book hasn't all of the copy's signatures, of their sizes.
def accident_lines(book, copy):
    ask_book(book, copy)
    return lack_lines(book, copy) + change_lines(book, copy) + move_lines(book, copy)


def ask_book(book, copy):
    sizes = sizes_by_signature(book)
    for quire in copy:
        if sizes.get(quire.signature) != quire.size:
            raise NotOfBook(quire.signature)


def lack_lines(book, copy):
    held = sizes_by_signature(copy)
    lacking = [quire.signature for quire in book if quire.signature not in held]
    return [[TILDE] + signature_text(signature) + [LINE_FEED] for signature in lacking]


def change_lines(book, copy):
    held = dict([(quire.signature, quire) for quire in copy])
    lines = []
    for quire in book:
        if quire.signature in held:
            lines.extend(quire_lines(quire, held[quire.signature]))
    return lines


# What's otherwise in a gathering now than it was, by places.
def quire_lines(was, now):
    lines = gap_lines(was, now, 0)
    for leaf in range(1, now.size + 1):
        lines.extend(leaf_lines(was, now, leaf))
        lines.extend(gap_lines(was, now, leaf))
    return lines


def leaf_lines(was, now, leaf):
    state = now.leaves[leaf - 1]
    if was.leaves[leaf - 1] == state:
        return []
    return [[STATE_MARKS[state]] + numbered_text(now.signature, leaf) + [LINE_FEED]]


def gap_lines(was, now, gap):
    signs = now.gaps[gap]
    if was.gaps[gap] == signs:
        return []
    told = put_in_text(signs) if signs else number_text(0, DIGITS)
    return [[PLUS] + numbered_text(now.signature, gap) + [BLANK] + told + [LINE_FEED]]


def numbered_text(signature, number):
    return signature_text(signature) + [DOT] + number_text(number, DIGITS)


def move_lines(book, copy):
    places = dict([(quire.signature, place) for place, quire in enumerate(book)])
    row = [places[quire.signature] for quire in copy]
    return [move_line(copy, place) for place in places_to_move(row)]


def move_line(copy, place):
    line = [GREATER] + signature_text(copy[place].signature)
    if place > 0:
        line.append(BLANK)
        line.extend(signature_text(copy[place - 1].signature))
    line.append(LINE_FEED)
    return line
