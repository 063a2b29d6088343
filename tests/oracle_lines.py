"""The oracle's telling of accidents: every choice of moves is tried, and lines are made by sorting what differs.

Lines are done to a dict of quires and a row of names, and read piece by piece by patterns.
"""

import functools
import itertools
import re

import oracle


def tell(book_text, copy_text):
    """What tell answers, but an answered text as a str."""
    if oracle.formula_fault(book_text) is not None or oracle.formula_fault(copy_text) is not None:
        return [-6]
    return tell_of(oracle.read(book_text), oracle.read(copy_text))


def tell_of(book, copy):
    sizes = {(quire["signature"], quire["size"]) for quire in book}
    if not {(quire["signature"], quire["size"]) for quire in copy} <= sizes:
        return [-4]
    order = [quire["signature"] for quire in book]
    row = [order.index(quire["signature"]) for quire in copy]
    lines = [(0, place, 0, "~" + oracle.written_signature(signature))
             for place, signature in enumerate(order) if place not in row]
    for place, quire in zip(row, copy):
        lines += [(1, place, rank, line) for rank, line in differences(book[place], quire)]
    for place in moved(row):
        names = [oracle.written_signature(quire["signature"]) for quire in copy[max(place - 1, 0):place + 1]]
        lines.append((2, place, 0, ">" + " ".join(reversed(names))))
    return "".join(line + "\n" for kind, place, rank, line in sorted(lines))


def differences(was, now):
    name = oracle.written_signature(now["signature"])
    for leaf in range(1, now["size"] + 1):
        state = now["states"].get(leaf, "=")
        if was["states"].get(leaf, "=") != state:
            yield 2 * leaf - 1, f"{state}{name}.{leaf}"
    for gap in range(now["size"] + 1):
        signs = now["put"].get(gap, "")
        if was["put"].get(gap, "") != signs:
            told = len(signs) if signs == "|" * len(signs) and len(signs) < 10 else f"⟨{signs}⟩"
            yield 2 * gap, f"+{name}.{gap} {told}"


def moved(row):
    return moved_of_few(row) if len(row) < 9 else moved_of_many(row)


def moved_of_few(row):
    """By trying all: combinations come with fewer places first, and of as many in the order of their places."""
    for many in range(len(row) + 1):
        for places in itertools.combinations(range(len(row)), many):
            left = [number for place, number in enumerate(row) if place not in places]
            if left == sorted(left):
                return places


def moved_of_many(row):
    """By the best end of each beginning: fewer first, then the places that come first."""

    @functools.lru_cache(None)
    def best(start, last):
        if start == len(row):
            return 0, ()
        many, places = best(start + 1, last)
        found = (many + 1, (start,) + places)
        if row[start] > last:
            found = min(found, best(start + 1, row[start]))
        return found

    return best(0, -1)[1]


# The pieces of each kind of line, by its first sign; the line feed behind them is one too.
PIECES = {
    "~": ["signature", "\n"], "−": ["signature", ".", "leaf", "\n"], "÷": ["signature", ".", "leaf", "\n"],
    "=": ["signature", ".", "leaf", "\n"], "+": ["signature", ".", "gap", " ", "put", "\n"],
    ">": ["signature", "behind", "\n"],
}
NUMBER = r"(?:0|[1-9][0-9]{0,6})"


def do(book_text, lines_text):
    """What do answers, but an answered text as a str."""
    if oracle.formula_fault(book_text) is not None:
        return [-6]
    book = oracle.read(book_text)
    quires = {quire["signature"]: quire for quire in book}
    row = list(quires)
    place = 0
    try:
        while place < len(lines_text):
            kind = lines_text[place]
            if kind not in PIECES:
                raise oracle.Fault(place)
            values, place = pieces(lines_text, place + 1, PIECES[kind], quires, row)
            row = done(kind, values, quires, row)
        if not is_make_up([quires[signature] for signature in row]):
            raise oracle.Fault(place)
    except oracle.Fault as fault:
        return [-3, fault.args[0]]
    return oracle.written([quires[signature] for signature in row])


def pieces(text, place, kinds, quires, row):
    """What a line's pieces say, as far as the first that's at fault, and where the line ends."""
    values = []
    for kind in kinds:
        if kind == "behind":
            if text[place:place + 1] == " ":
                value, after = signature(text, place + 1)
                if value not in row or value == values[0]:
                    raise oracle.Fault(place + 1)
                values.append(value)
                place = after
            continue
        if len(kind) == 1:
            after = place + 1
            if text[place:after] != kind:
                raise oracle.Fault(place)
        elif kind == "signature":
            value, after = signature(text, place)
            if value not in row:
                raise oracle.Fault(place)
            values.append(value)
        elif kind == "put":
            value, after = put_in(text, place)
            values.append(value)
        else:
            value, after = number(text, place)
            if value > quires[values[0]]["size"] or (kind == "leaf" and value == 0):
                raise oracle.Fault(place)
            values.append(value)
        place = after
    return values, place


def signature(text, place):
    after = place + len(re.match(NUMBER + "?", text[place:]).group())
    if after == len(text) or text[after] not in oracle.SIGNS:
        raise oracle.Fault(after)
    times = text[place:after]
    if times and not 2 <= int(times) <= 99:
        raise oracle.Fault(place)
    return (int(times or 1), oracle.SIGNS.index(text[after])), after + 1


def number(text, place):
    found = re.match(NUMBER, text[place:])
    if not found:
        raise oracle.Fault(place)
    if re.match("[0-9]", text[place + found.end():]):
        raise oracle.Fault(place + found.end())
    return int(found.group()), place + found.end()


def put_in(text, place):
    if text[place:place + 1] != "⟨":
        many, after = number(text, place)
        if many > 9:
            raise oracle.Fault(place)
        return "|" * many, after
    signs = re.match(r"[|()\[\]]*", text[place + 1:]).group()
    after = place + 1 + len(signs)
    if text[after:after + 1] != "⟩":
        raise oracle.Fault(after)
    if len(signs) > 21 or not oracle.paired(signs) or (len(signs) < 10 and not signs.strip("|")):
        raise oracle.Fault(place)
    return signs, after + 1


def done(kind, values, quires, row):
    quire = quires[values[0]]
    if kind == "~":
        return [one for one in row if one != values[0]]
    if kind == ">":
        left = [[one] for one in row if one != values[0]]
        if len(values) == 1:
            return [values[0]] + sum(left, [])
        return sum([one + [values[0]] if one == [values[1]] else one for one in left], [])
    if kind == "+":
        quire["put"] = {gap: signs for gap, signs in quire["put"].items() if gap != values[1]}
        if values[2]:
            quire["put"][values[1]] = values[2]
        return row
    quire["states"] = {leaf: state for leaf, state in quire["states"].items() if leaf != values[1]}
    if kind != "=":
        quire["states"][values[1]] = kind
    return row


def is_make_up(quires):
    for quire in quires:
        for leaf, state in quire["states"].items():
            partner = quire["size"] + 1 - leaf
            if state == "÷" and (partner == leaf or partner in quire["states"]):
                return False
        if not oracle.good_word(quire):
            return False
    return len(quires) > 0


def befell(number, text):
    """What befell answers, but an answered text as a str."""
    book = oracle.ideal(text)
    if not isinstance(book, str):
        return book[:1]
    lines = text.split("\n")[:-1]
    return tell(book, lines[number]) if number < len(lines) else [-4]
