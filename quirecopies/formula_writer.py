"""Writing formulas."""

from quirecopies.gatherings import is_counted
from quirecopies.marks import (
    ANGLE_LEFT, ANGLE_RIGHT, BLANK, COMMA, DASH, DIGITS, DIVIDE, LEFT, MINUS, PLUS, RAISED_DIGITS, RIGHT,
    number_text,
)
from quirecopies.quires import CUT, LOST, joins
from quirecopies.signatures import signature_text


# The formula of a make-up, as a list of characters.
def formula_text(quires):
    text = []
    first = 0
    while first < len(quires):
        last = last_of_item(quires, first)
        if first > 0:
            text.append(BLANK)
        text.extend(item_text(quires[first], quires[last]))
        first = last + 1
    return text


def last_of_item(quires, first):
    last = first
    while last + 1 < len(quires) and joins(quires[last], quires[last + 1]):
        last += 1
    return last


def item_text(first, last):
    text = signature_text(first.signature)
    if first.signature != last.signature:
        text.append(DASH)
        text.extend(signature_text(last.signature))
    text.extend(number_text(first.size, RAISED_DIGITS))
    notes = note_texts(first)
    for number, note in enumerate(notes):
        text.extend([COMMA, BLANK] if number > 0 else [LEFT])
        text.extend(note)
    if notes:
        text.append(RIGHT)
    return text


def note_texts(quire):
    notes = gap_notes(quire, 0)
    for leaf in range(1, quire.size + 1):
        notes.extend(leaf_notes(quire, leaf))
        notes.extend(gap_notes(quire, leaf))
    return notes


def leaf_notes(quire, leaf):
    state = quire.leaves[leaf - 1]
    if state == LOST:
        return [[MINUS] + number_text(leaf, DIGITS)]
    if state == CUT:
        return [[DIVIDE] + number_text(leaf, DIGITS)]
    return []


def gap_notes(quire, gap):
    signs = quire.gaps[gap]
    if not signs:
        return []
    return [number_text(gap, DIGITS) + [PLUS] + put_in_text(signs)]


def put_in_text(signs):
    if is_counted(signs):
        return number_text(len(signs), DIGITS)
    return [ANGLE_LEFT] + signs + [ANGLE_RIGHT]
