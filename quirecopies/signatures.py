"""Signatures as pairs (times, sign's number), so that the lesser pair is the lesser signature."""

from quirecopies.marks import DIGITS, number_text

SIGNS = (
    0x41, 0x42, 0x43, 0x44, 0x45, 0x46, 0x47, 0x48, 0x49, 0x4B, 0x4C, 0x4D,
    0x4E, 0x4F, 0x50, 0x51, 0x52, 0x53, 0x54, 0x56, 0x58, 0x59, 0x5A,
    0x61, 0x62, 0x63, 0x64, 0x65, 0x66, 0x67, 0x68, 0x69, 0x6B, 0x6C, 0x6D,
    0x6E, 0x6F, 0x70, 0x71, 0x72, 0x73, 0x74, 0x76, 0x78, 0x79, 0x7A,
    0x3C0, 0x3C7, 0x2A, 0x2020,
)
ALPHABET = 23
MOST_TIMES = 99


def is_letter(sign):
    return sign < 2 * ALPHABET


# The signature that comes behind this one, or None.
def signature_behind(signature):
    times = signature[0]
    sign = signature[1]
    if not is_letter(sign):
        return None
    if sign % ALPHABET < ALPHABET - 1:
        return (times, sign + 1)
    if times == MOST_TIMES:
        return None
    return (times + 1, sign - (ALPHABET - 1))


def signature_text(signature):
    text = []
    if signature[0] > 1:
        text.extend(number_text(signature[0], DIGITS))
    text.append(SIGNS[signature[1]])
    return text
