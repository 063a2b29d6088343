"""The oracle's telling of accidents: every choice of moves is tried, and lines are made by sorting what differs."""

import functools
import itertools

import oracle


def tell(book_text, copy_text):
    """What tell answers, but an answered text as a str."""
    if oracle.formula_fault(book_text) is not None or oracle.formula_fault(copy_text) is not None:
        return [-6]
    return tell_of(oracle.read(book_text), oracle.read(copy_text))


def tell_of(book, copy):
    sizes = {(quire["signature"], quire["size"]) for quire in book}
    if not {(quire["signature"], quire["size"]) for quire in copy} <= sizes:
        return [-4]
    order = [quire["signature"] for quire in book]
    row = [order.index(quire["signature"]) for quire in copy]
    lines = [(0, place, 0, "~" + oracle.written_signature(signature))
             for place, signature in enumerate(order) if place not in row]
    for place, quire in zip(row, copy):
        lines += [(1, place, rank, line) for rank, line in differences(book[place], quire)]
    for place in moved(row):
        names = [oracle.written_signature(quire["signature"]) for quire in copy[max(place - 1, 0):place + 1]]
        lines.append((2, place, 0, ">" + " ".join(reversed(names))))
    return "".join(line + "\n" for kind, place, rank, line in sorted(lines))


def differences(was, now):
    name = oracle.written_signature(now["signature"])
    for leaf in range(1, now["size"] + 1):
        state = now["states"].get(leaf, "=")
        if was["states"].get(leaf, "=") != state:
            yield 2 * leaf - 1, f"{state}{name}.{leaf}"
    for gap in range(now["size"] + 1):
        signs = now["put"].get(gap, "")
        if was["put"].get(gap, "") != signs:
            told = len(signs) if signs == "|" * len(signs) and len(signs) < 10 else f"⟨{signs}⟩"
            yield 2 * gap, f"+{name}.{gap} {told}"


def moved(row):
    return moved_of_few(row) if len(row) < 9 else moved_of_many(row)


def moved_of_few(row):
    """By trying all: combinations come with fewer places first, and of as many in the order of their places."""
    for many in range(len(row) + 1):
        for places in itertools.combinations(range(len(row)), many):
            left = [number for place, number in enumerate(row) if place not in places]
            if left == sorted(left):
                return places


def moved_of_many(row):
    """By the best end of each beginning: fewer first, then the places that come first."""

    @functools.lru_cache(None)
    def best(start, last):
        if start == len(row):
            return 0, ()
        many, places = best(start + 1, last)
        found = (many + 1, (start,) + places)
        if row[start] > last:
            found = min(found, best(start + 1, row[start]))
        return found

    return best(0, -1)[1]
