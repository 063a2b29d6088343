"""Reading a text from the front: what formulas and their parts have in common."""

from quirecopies.faults import TextFault
from quirecopies.gatherings import ALONE, MOST_COUNTED, PLACE_SIGNS, is_counted, is_gathering
from quirecopies.marks import ANGLE_LEFT, ANGLE_RIGHT, DIGITS
from quirecopies.signatures import MOST_TIMES, SIGNS

MOST_DIGITS = 7


# A place in a list of characters that is read as far as end; the list is only looked at.
class Cursor:
    def __init__(self, chars, place, end):
        self.chars = chars
        self.place = place
        self.end = end

    # The character that comes now, None at the end.
    def peek(self):
        if self.place < self.end:
            return self.chars[self.place]
        return None

    def step(self):
        self.place += 1

    def take(self, char):
        if self.peek() != char:
            raise TextFault(self.place)
        self.step()


# A number of at most seven digits, out of ten from 0 to 9, without a 0 in front.
def read_number(cursor, digits):
    if cursor.peek() not in digits:
        raise TextFault(cursor.place)
    number = 0
    length = 0
    while cursor.peek() in digits:
        if length == MOST_DIGITS or (length == 1 and number == 0):
            raise TextFault(cursor.place)
        number = 10 * number + digits.index(cursor.peek())
        length += 1
        cursor.step()
    return number


def read_signature(cursor):
    first = cursor.place
    times = 1
    is_told = cursor.peek() in DIGITS
    if is_told:
        times = read_number(cursor, DIGITS)
    if cursor.peek() not in SIGNS:
        raise TextFault(cursor.place)
    sign = SIGNS.index(cursor.peek())
    cursor.step()
    if is_told and not 2 <= times <= MOST_TIMES:
        raise TextFault(first)
    return (times, sign)


# What's put in at a gap, as its signs (none, if it's told by 0); None, if it can't be told so.
def read_put_in(cursor):
    if cursor.peek() == ANGLE_LEFT:
        return read_put_in_signs(cursor)
    number = read_number(cursor, DIGITS)
    if number > MOST_COUNTED:
        return None
    return [ALONE] * number


def read_put_in_signs(cursor):
    cursor.take(ANGLE_LEFT)
    signs = []
    while cursor.peek() in PLACE_SIGNS:
        signs.append(cursor.peek())
        cursor.step()
    cursor.take(ANGLE_RIGHT)
    if not signs or is_counted(signs) or not is_gathering(signs):
        return None
    return signs
