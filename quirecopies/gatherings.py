"""Gatherings as lists of their signs' characters."""

ALONE = 0x7C
LEAF_FRONT = 0x28
LEAF_BACK = 0x29
STUB_FRONT = 0x5B
STUB_BACK = 0x5D
PLACE_SIGNS = (0x7C, 0x28, 0x29, 0x5B, 0x5D)

MOST_PLACES = 21
MOST_COUNTED = 9


def is_gathering(signs):
    if len(signs) > MOST_PLACES:
        return False
    waiting = []
    for sign in signs:
        if sign == LEAF_FRONT or sign == STUB_FRONT:
            waiting.append(sign)
        elif sign != ALONE:
            if not waiting:
                return False
            # Pairs never cross, so the partner is the nearest one that still waits.
            partner = waiting.pop()
            if partner == STUB_FRONT and sign == STUB_BACK:
                return False
    return not waiting


# Whether a formula tells these signs by how many leaves alone they are.
def is_counted(signs):
    return 1 <= len(signs) <= MOST_COUNTED and all([sign == ALONE for sign in signs])


def has_leaf(signs):
    return any([sign == ALONE or sign == LEAF_FRONT or sign == LEAF_BACK for sign in signs])
