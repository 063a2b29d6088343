"""A second, slow telling of the document, written otherwise: a table of states, and words as texts."""

import re

SIGNS = "ABCDEFGHIKLMNOPQRSTVXYZabcdefghiklmnopqrstvxyzπχ*†"
RAISED = "⁰¹²³⁴⁵⁶⁷⁸⁹"

# state: (class of the character, next state) pairs; "" is the end.
STATES = {
    "item": {"digit": "times", "sign": "one"},
    "times": {"digit": "times", "sign": "one"},
    "one": {"–": "second", "raised": "size"},
    "second": {"digit": "times2", "sign": "two"},
    "times2": {"digit": "times2", "sign": "two"},
    "two": {"raised": "size2"},
    "size": {"raised": "size", "(": "note", " ": "item", "": "done"},
    "size2": {"raised": "size2", " ": "item", "": "done"},
    "note": {"−": "leaf", "÷": "leaf", "digit": "gap"},
    "leaf": {"digit": "leafnumber"},
    "leafnumber": {"digit": "leafnumber", ",": "comma", ")": "closed"},
    "gap": {"digit": "gap", "+": "put"},
    "put": {"digit": "count", "⟨": "signs"},
    "count": {"digit": "count", ",": "comma", ")": "closed"},
    "signs": {"|": "signs", "(": "signs", ")": "signs", "[": "signs", "]": "signs", "⟩": "putend"},
    "putend": {",": "comma", ")": "closed"},
    "comma": {" ": "note"},
    "closed": {" ": "item", "": "done"},
}
NUMBERS = ("times", "times2", "size", "size2", "leafnumber", "gap", "count")


class Fault(Exception):
    pass


def kind_of(char, state):
    if char == "":
        return ""
    if char in "0123456789":
        return "digit"
    if char in RAISED:
        return "raised"
    if char in SIGNS and state != "signs":
        return "sign"
    return char


def states_of(text):
    """The state behind each character, as far as the form goes, and where it goes no farther."""
    state = "item"
    row = []
    digits = ""
    for place, char in enumerate(text):
        after = STATES[state].get(kind_of(char, state))
        if after is None:
            return row, place
        if after in NUMBERS:
            digits = digits + char if after == state else char
            if len(digits) > 7 or (len(digits) > 1 and digits[0] in "0⁰"):
                return row, place
        row.append(after)
        state = after
    return row, None if "" in STATES[state] else len(text)


def paired(signs):
    left = None
    while left != signs:
        left = signs
        signs = re.sub(r"\||\(\)|\(\]|\[\)", "", signs)
    return signs == ""


def number_in(text):
    return int("".join(str(RAISED.index(char)) if char in RAISED else char for char in text))


def line_of(signature):
    """Which row of signatures it's in, and the how manieth there; rows of signs 46 to 49 have one."""
    times, sign = signature
    if sign < 46:
        return sign // 23, (times - 1) * 23 + sign % 23
    return signature, 0


class Book:
    """A formula read state by state; what stands whole is looked at in told()."""

    def __init__(self):
        self.quires = []
        self.notes = None

    def signature(self, text, start):
        times = text[:-1]
        if times and not 2 <= int(times) <= 99:
            raise Fault(start)
        return int(times or 1), SIGNS.index(text[-1])

    def add(self, signature, start):
        if len(self.quires) == 48 or any(quire["signature"] == signature for quire in self.quires):
            raise Fault(start)
        self.quires.append({"signature": signature, "size": 0, "states": {}, "put": {}, "rank": -1})

    def one(self, text, start):
        self.item = start
        self.first = len(self.quires)
        self.add(self.signature(text, start), start)

    def two(self, text, start):
        last = self.signature(text, start)
        row, number = line_of(self.quires[-1]["signature"])
        last_row, last_number = line_of(last)
        if row != last_row or last_number <= number:
            raise Fault(start)
        for step in range(number + 1, last_number + 1):
            self.add((step // 23 + 1, step % 23 + 23 * row), start)

    def size(self, text, start):
        size = number_in(text)
        if size not in (1, 2, 4, 6, 8, 10, 12, 14, 16, 18, 20):
            raise Fault(start)
        for quire in self.quires[self.first:]:
            quire["size"] = size

    def bare(self):
        if self.first > 0 and one_item(self.quires[self.first - 1], self.quires[self.first]):
            raise Fault(self.item)

    def leafnumber(self, text, start):
        quire = self.quires[-1]
        leaf = int(text[1:])
        partner = quire["states"].get(quire["size"] + 1 - leaf)
        state = text[0]
        rank = 2 * leaf - 1
        bad = leaf == 0 or leaf > quire["size"] or rank <= quire["rank"]
        if bad or partner == "÷" or (state == "÷" and (partner == "−" or quire["size"] == 1)):
            raise Fault(start)
        quire["states"][leaf] = state
        quire["rank"] = rank

    def gap(self, text, start):
        quire = self.quires[-1]
        gap = int(text)
        if gap > quire["size"] or 2 * gap <= quire["rank"]:
            raise Fault(start)
        quire["rank"] = 2 * gap

    def putend(self, text, start):
        gap, told = text.split("+")
        if told[0] == "⟨":
            signs = told[1:-1]
            if len(signs) > 21 or not paired(signs) or re.fullmatch(r"\|{0,9}", signs):
                raise Fault(start)
        else:
            if not 1 <= int(told) <= 9:
                raise Fault(start)
            signs = "|" * int(told)
        self.quires[-1]["put"][int(gap)] = signs

    def closed(self, start):
        if not good_word(self.quires[-1]):
            raise Fault(start)


def one_item(before, quire):
    row, number = line_of(before["signature"])
    next_row, next_number = line_of(quire["signature"])
    plain = not (before["states"] or before["put"] or quire["states"] or quire["put"])
    return plain and before["size"] == quire["size"] and row == next_row and next_number == number + 1


def word(quire):
    size = quire["size"]
    text = quire["put"].get(0, "")
    for leaf in range(1, size + 1):
        state = quire["states"].get(leaf, "")
        lone = size == 1 or quire["states"].get(size + 1 - leaf) == "−"
        side = 0 if leaf <= size // 2 else 1
        text += {"−": "", "÷": "[]"[side], "": "|" if lone else "()"[side]}[state] + quire["put"].get(leaf, "")
    return text


def good_word(quire):
    signs = word(quire)
    return len(signs) <= 21 and re.search(r"[|()]", signs) is not None


def read(text):
    """The quires of a formula; Fault with its place."""
    row, stop = states_of(text)
    book = Book()
    starts = {}
    for place in range(len(row) + 1):
        state = row[place] if place < len(row) else None
        last = row[place - 1] if place > 0 else None
        if last != state and last in NUMBERS:
            digit_comes = place < len(text) and text[place] in (RAISED if last.startswith("size") else "0123456789")
            if not digit_comes:
                look_at_number(book, text, last, starts, place)
        if state is None:
            break
        before = "item" if place == 0 else last
        if before in ("item", "second", "note"):
            starts["token"] = place
        if state in ("size", "size2") and state != last:
            starts["size"] = place
        if state == "note" and text[place] == "(":
            starts["("] = place
        if state == "one" or state == "two":
            getattr(book, state)(text[starts["token"]:place + 1], starts["token"])
        if state == "putend":
            book.putend(text[starts["token"]:place + 1], starts["token"])
        if state == "closed":
            book.closed(starts["("])
    if stop is not None:
        raise Fault(stop)
    return book.quires


def look_at_number(book, text, state, starts, place):
    token = text[starts["token"]:place]
    if state in ("size", "size2"):
        book.size(text[starts["size"]:place], starts["size"])
        if text[place:place + 1] != "(":
            book.bare()
    elif state == "leafnumber":
        book.leafnumber(token, starts["token"])
    elif state == "gap":
        book.gap(token, starts["token"])
    elif state == "count":
        book.putend(token, starts["token"])


def formula_fault(text):
    try:
        read(text)
    except Fault as fault:
        return fault.args[0]
    return None


def written_signature(signature):
    times, sign = signature
    return (str(times) if times > 1 else "") + SIGNS[sign]


def written(quires):
    items = []
    while quires:
        many = 1
        while many < len(quires) and one_item(quires[many - 1], quires[many]):
            many += 1
        text = written_signature(quires[0]["signature"])
        if many > 1:
            text += "–" + written_signature(quires[many - 1]["signature"])
        text += "".join(RAISED[int(digit)] for digit in str(quires[0]["size"]))
        notes = [(2 * leaf - 1, f"{state}{leaf}") for leaf, state in quires[0]["states"].items() if state]
        for gap, signs in quires[0]["put"].items():
            told = str(len(signs)) if re.fullmatch(r"\|{1,9}", signs) else f"⟨{signs}⟩"
            if signs:
                notes.append((2 * gap, f"{gap}+{told}"))
        if notes:
            text += "(" + ", ".join(note for rank, note in sorted(notes)) + ")"
        items.append(text)
        quires = quires[many:]
    return " ".join(items)


def ideal(text):
    """What ideal answers, but an answered text as a str."""
    copies = []
    place = 0
    for line in text.split("\n"):
        if place == len(text) and copies:
            break
        if len(copies) == 16:
            return [-6, place]
        fault = formula_fault(line)
        if fault is not None:
            return [-6, place + fault]
        if place + len(line) == len(text):
            return [-6, len(text)]
        copies.append(read(line))
        place += len(line) + 1
    return ideal_of(copies)


def ideal_of(copies):
    for lower in range(len(copies)):
        for higher in range(lower + 1, len(copies)):
            for one in copies[lower]:
                for two in copies[higher]:
                    if one["signature"] == two["signature"] and one["size"] != two["size"]:
                        return [-1, 1, lower, higher]
    before = closure(copies)
    left = sorted({quire["signature"] for quires in copies for quire in quires})
    if any((signature, signature) in before for signature in left):
        return [-1, 2, 0, 0]
    quires = []
    while left:
        for signature in left:
            if not any((other, signature) in before for other in left):
                break
        left.remove(signature)
        quires.append(joined([quire for row in copies for quire in row if quire["signature"] == signature]))
    if not all(good_word(quire) for quire in quires):
        return [-1, 3, 0, 0]
    if len(quires) > 48:
        return [-1, 4, 0, 0]
    return written(quires)


def closure(copies):
    before = set()
    for quires in copies:
        row = [quire["signature"] for quire in quires]
        before |= {(one, two) for k, one in enumerate(row) for two in row[k + 1:]}
    signatures = {quire["signature"] for quires in copies for quire in quires}
    for middle in signatures:
        ones = [one for one in signatures if (one, middle) in before]
        twos = [two for two in signatures if (middle, two) in before]
        before |= {(one, two) for one in ones for two in twos}
    return before


def joined(held):
    size = held[0]["size"]
    states = {}
    for leaf in range(1, size + 1):
        found = {quire["states"].get(leaf, "") for quire in held}
        state = "" if "" in found else "÷" if "÷" in found else "−"
        if state:
            states[leaf] = state
    put = {}
    for gap in range(size + 1):
        found = {quire["put"].get(gap, "") for quire in held}
        if len(found) == 1 and found != {""}:
            put[gap] = found.pop()
    return {"signature": held[0]["signature"], "size": size, "states": states, "put": put}
