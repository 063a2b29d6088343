"""Quires: the gatherings of a make-up, each with its signature, size, leaves and gaps."""

from quirecopies.gatherings import (
    ALONE, LEAF_BACK, LEAF_FRONT, MOST_PLACES, STUB_BACK, STUB_FRONT, has_leaf,
)
from quirecopies.signatures import signature_behind

# In this order, so that of some copies' states of a leaf the least is the ideal's.
KEPT = 0
CUT = 1
LOST = 2

MOST_QUIRES = 48
MOST_SIZE = 20


# leaves has leaf k's state at k - 1; gaps has the signs that are put in at gap k at k.
class Quire:
    def __init__(self, signature, size):
        self.signature = signature
        self.size = size
        self.leaves = [KEPT] * size
        self.gaps = [[] for gap in range(size + 1)]


def is_size(number):
    return number == 1 or (number % 2 == 0 and 2 <= number <= MOST_SIZE)


def sizes_by_signature(quires):
    return dict([(quire.signature, quire.size) for quire in quires])


# Whether a formula has no note of it.
def is_plain(quire):
    return quire.leaves == [KEPT] * quire.size and all([not signs for signs in quire.gaps])


# Whether a quire directly behind another is of one item with it.
def joins(before, quire):
    if before.size != quire.size or signature_behind(before.signature) != quire.signature:
        return False
    return is_plain(before) and is_plain(quire)


def partner_state(quire, leaf):
    return quire.leaves[quire.size - leaf]


# Whether a leaf that's kept as yet may be lost or cut, beside what its partner is.
def may_become(quire, leaf, state):
    if state == CUT:
        return may_be_cut(quire, leaf)
    return partner_state(quire, leaf) != CUT


def may_be_cut(quire, leaf):
    return quire.size > 1 and partner_state(quire, leaf) == KEPT


def leaf_signs(quire, leaf):
    state = quire.leaves[leaf - 1]
    in_front = 2 * leaf <= quire.size
    if state == LOST:
        return []
    if state == CUT:
        return [STUB_FRONT if in_front else STUB_BACK]
    if quire.size == 1 or partner_state(quire, leaf) == LOST:
        return [ALONE]
    return [LEAF_FRONT if in_front else LEAF_BACK]


def word(quire):
    signs = list(quire.gaps[0])
    for leaf in range(1, quire.size + 1):
        signs.extend(leaf_signs(quire, leaf))
        signs.extend(quire.gaps[leaf])
    return signs


def has_good_word(quire):
    signs = word(quire)
    return len(signs) <= MOST_PLACES and has_leaf(signs)


def has_good_cuts(quire):
    return all([may_be_cut(quire, leaf) for leaf in range(1, quire.size + 1) if quire.leaves[leaf - 1] == CUT])


# Whether quires of different signatures, with gatherings at their gaps, are a make-up.
def is_make_up(quires):
    if not 1 <= len(quires) <= MOST_QUIRES:
        return False
    return all([has_good_cuts(quire) and has_good_word(quire) for quire in quires])
