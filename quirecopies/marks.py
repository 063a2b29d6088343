"""The characters of formulas and of accidents' lines, by their numbers."""

LINE_FEED = 10
BLANK = 0x20
COMMA = 0x2C
PLUS = 0x2B
LEFT = 0x28
RIGHT = 0x29
DASH = 0x2013
MINUS = 0x2212
DIVIDE = 0xF7
ANGLE_LEFT = 0x27E8
ANGLE_RIGHT = 0x27E9
TILDE = 0x7E
GREATER = 0x3E
DOT = 0x2E

# What a line begins with that makes a leaf kept, cut, lost: at these states' numbers, as quires.py has them.
STATE_MARKS = (0x3D, 0xF7, 0x2212)

DIGITS = (0x30, 0x31, 0x32, 0x33, 0x34, 0x35, 0x36, 0x37, 0x38, 0x39)
RAISED_DIGITS = (0x2070, 0xB9, 0xB2, 0xB3, 0x2074, 0x2075, 0x2076, 0x2077, 0x2078, 0x2079)


# The decimal characters of a number, out of ten digits from 0 to 9.
def number_text(number, digits):
    return [digits[int(figure)] for figure in str(number)]
