"""Reading formulas, and copies as lines of formulas."""

from quirecopies.cursor import Cursor, read_number, read_put_in, read_signature
from quirecopies.faults import TextFault
from quirecopies.marks import (
    BLANK, COMMA, DASH, DIGITS, DIVIDE, LEFT, LINE_FEED, MINUS, PLUS, RAISED_DIGITS, RIGHT,
)
from quirecopies.quires import CUT, LOST, MOST_QUIRES, Quire, has_good_word, is_size, joins, may_become
from quirecopies.signatures import signature_behind

MOST_COPIES = 16


# The make-ups of a copies' text, each a list of quires; TextFault where it's none.
def read_copies(chars):
    copies = []
    place = 0
    while place < len(chars) or not copies:
        if len(copies) == MOST_COPIES:
            raise TextFault(place)
        end = line_end(chars, place)
        copies.append(read_formula(chars, place, end))
        if end == len(chars):
            raise TextFault(end)
        place = end + 1
    return copies


def line_end(chars, place):
    while place < len(chars) and chars[place] != LINE_FEED:
        place += 1
    return place


# The quires of the formula from place to end; TextFault, with its place in chars, if it's none.
def read_formula(chars, place, end):
    cursor = Cursor(chars, place, end)
    quires = []
    known = {}
    read_item(cursor, quires, known)
    while cursor.peek() is not None:
        cursor.take(BLANK)
        read_item(cursor, quires, known)
    return quires


def read_item(cursor, quires, known):
    first = cursor.place
    signatures = read_item_signatures(cursor, known)
    size = read_size(cursor)
    added = [Quire(signature, size) for signature in signatures]
    if cursor.peek() == LEFT:
        if len(added) > 1:
            raise TextFault(cursor.place)
        read_notes(cursor, added[0])
    elif quires and joins(quires[-1], added[0]):
        raise TextFault(first)
    quires.extend(added)


# The signatures of an item's gatherings, which are known from then on.
def read_item_signatures(cursor, known):
    first = cursor.place
    signature = read_signature(cursor)
    make_known(signature, known, first)
    signatures = [signature]
    if cursor.peek() != DASH:
        return signatures
    cursor.step()
    first = cursor.place
    last = read_signature(cursor)
    if signature == last:
        raise TextFault(first)
    while signature != last:
        signature = signature_behind(signature)
        make_known(signature, known, first)
        signatures.append(signature)
    return signatures


def make_known(signature, known, first):
    if signature is None or signature in known or len(known) == MOST_QUIRES:
        raise TextFault(first)
    known[signature] = True


def read_size(cursor):
    first = cursor.place
    size = read_number(cursor, RAISED_DIGITS)
    if not is_size(size):
        raise TextFault(first)
    return size


def read_notes(cursor, quire):
    bracket = cursor.place
    cursor.take(LEFT)
    before = read_note(cursor, quire, None)
    while cursor.peek() == COMMA:
        cursor.step()
        cursor.take(BLANK)
        before = read_note(cursor, quire, before)
    cursor.take(RIGHT)
    if not has_good_word(quire):
        raise TextFault(bracket)


# Reads a note into quire; before is the last note's rank, and this one's is given back.
#
# Gap k has rank 2 * k and leaf k has rank 2 * k - 1, so that ranks rise as the places do.
def read_note(cursor, quire, before):
    if cursor.peek() == MINUS:
        return read_leaf_note(cursor, quire, before, LOST)
    if cursor.peek() == DIVIDE:
        return read_leaf_note(cursor, quire, before, CUT)
    return read_gap_note(cursor, quire, before)


def read_leaf_note(cursor, quire, before, state):
    first = cursor.place
    cursor.step()
    leaf = read_number(cursor, DIGITS)
    rank = 2 * leaf - 1
    if not 1 <= leaf <= quire.size or not is_in_order(before, rank) or not may_become(quire, leaf, state):
        raise TextFault(first)
    quire.leaves[leaf - 1] = state
    return rank


def read_gap_note(cursor, quire, before):
    first = cursor.place
    gap = read_number(cursor, DIGITS)
    rank = 2 * gap
    if gap > quire.size or not is_in_order(before, rank):
        raise TextFault(first)
    cursor.take(PLUS)
    signs = read_put_in(cursor)
    if not signs:
        raise TextFault(first)
    quire.gaps[gap] = signs
    return rank


def is_in_order(before, rank):
    return before is None or before < rank
