"""Doing accidents' lines to a make-up, each as soon as it's read."""

from quirecopies.cursor import Cursor, read_number, read_put_in, read_signature
from quirecopies.faults import TextFault
from quirecopies.marks import BLANK, DIGITS, DOT, GREATER, LINE_FEED, PLUS, STATE_MARKS, TILDE
from quirecopies.quires import is_make_up


# Does the lines in chars to the list of quires; TextFault, with its place in chars, where they're at fault.
def do_lines(quires, chars):
    cursor = Cursor(chars, 0, len(chars))
    while cursor.peek() is not None:
        do_line(cursor, quires)
    if not is_make_up(quires):
        raise TextFault(cursor.place)


def do_line(cursor, quires):
    mark = cursor.peek()
    if mark == TILDE:
        do_lack(cursor, quires)
    elif mark in STATE_MARKS:
        do_state(cursor, quires)
    elif mark == PLUS:
        do_put_in(cursor, quires)
    elif mark == GREATER:
        do_move(cursor, quires)
    else:
        raise TextFault(cursor.place)


def do_lack(cursor, quires):
    cursor.take(TILDE)
    place = read_place(cursor, quires)
    cursor.take(LINE_FEED)
    quires.pop(place)


def do_state(cursor, quires):
    state = STATE_MARKS.index(cursor.peek())
    cursor.step()
    quire = quires[read_place(cursor, quires)]
    cursor.take(DOT)
    leaf = read_number_within(cursor, 1, quire.size)
    cursor.take(LINE_FEED)
    quire.leaves[leaf - 1] = state


def do_put_in(cursor, quires):
    cursor.take(PLUS)
    quire = quires[read_place(cursor, quires)]
    cursor.take(DOT)
    gap = read_number_within(cursor, 0, quire.size)
    cursor.take(BLANK)
    first = cursor.place
    signs = read_put_in(cursor)
    if signs is None:
        raise TextFault(first)
    cursor.take(LINE_FEED)
    quire.gaps[gap] = signs


def do_move(cursor, quires):
    cursor.take(GREATER)
    source = read_place(cursor, quires)
    target = 0
    if cursor.peek() == BLANK:
        cursor.step()
        target = read_target(cursor, quires, source)
    cursor.take(LINE_FEED)
    quire = quires.pop(source)
    quires.insert(target, quire)


# The place directly behind the quire whose signature comes now, when the one at source is taken out.
def read_target(cursor, quires, source):
    first = cursor.place
    before = read_place(cursor, quires)
    if before == source:
        raise TextFault(first)
    return before + 1 if before < source else before


# Where among the quires the one stands whose signature comes now.
def read_place(cursor, quires):
    first = cursor.place
    signature = read_signature(cursor)
    for place, quire in enumerate(quires):
        if quire.signature == signature:
            return place
    raise TextFault(first)


def read_number_within(cursor, least, most):
    first = cursor.place
    number = read_number(cursor, DIGITS)
    if not least <= number <= most:
        raise TextFault(first)
    return number
