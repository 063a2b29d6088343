"""The ideal book of some copies."""

from quirecopies.faults import NoIdeal
from quirecopies.quires import MOST_QUIRES, Quire, has_good_word, sizes_by_signature


# The quires of the ideal of copies, each a list of quires; NoIdeal, if there's none.
def ideal_of(copies):
    ask_sizes(copies)
    order = ideal_order(copies)
    holders = quires_by_signature(copies)
    quires = [ideal_quire(holders[signature]) for signature in order]
    if not all([has_good_word(quire) for quire in quires]):
        raise NoIdeal(3, 0, 0)
    if len(quires) > MOST_QUIRES:
        raise NoIdeal(4, 0, 0)
    return quires


def ask_sizes(copies):
    sizes = [sizes_by_signature(quires) for quires in copies]
    for lower in range(len(sizes)):
        for higher in range(lower + 1, len(sizes)):
            if differ_in_size(sizes[lower], sizes[higher]):
                raise NoIdeal(1, lower, higher)


def differ_in_size(sizes, others):
    return any([others.get(signature, size) != size for signature, size in sizes.items()])


# The copies' signatures in the ideal's order.
def ideal_order(copies):
    followers = followers_by_signature(copies)
    waiting = dict([(signature, 0) for signature in followers])
    for signature in followers:
        for follower in followers[signature]:
            waiting[follower] += 1
    free = [signature for signature in waiting if waiting[signature] == 0]
    order = []
    while free:
        least = min(free)
        free.remove(least)
        order.append(least)
        for follower in followers[least]:
            waiting[follower] -= 1
            if waiting[follower] == 0:
                free.append(follower)
    # Those that must come before themselves, and all behind them, are never free.
    if len(order) < len(waiting):
        raise NoIdeal(2, 0, 0)
    return order


# Of each signature those directly behind it, once for each copy: the others follow from these.
def followers_by_signature(copies):
    followers = {}
    for quires in copies:
        for quire in quires:
            followers.setdefault(quire.signature, [])
        for place in range(1, len(quires)):
            followers[quires[place - 1].signature].append(quires[place].signature)
    return followers


def quires_by_signature(copies):
    holders = {}
    for quires in copies:
        for quire in quires:
            holders.setdefault(quire.signature, []).append(quire)
    return holders


# What the ideal has of a gathering, of the copies' quires with its signature.
def ideal_quire(held):
    quire = Quire(held[0].signature, held[0].size)
    quire.leaves = [ideal_state(held, leaf) for leaf in range(1, quire.size + 1)]
    quire.gaps = [ideal_signs(held, gap) for gap in range(quire.size + 1)]
    return quire


def ideal_state(held, leaf):
    return min([quire.leaves[leaf - 1] for quire in held])


def ideal_signs(held, gap):
    signs = held[0].gaps[gap]
    if all([quire.gaps[gap] == signs for quire in held]):
        return list(signs)
    return []
