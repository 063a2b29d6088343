"""Make-ups and copies for the tests, drawn from a seeded row of numbers; quires as oracle.py has them."""

import oracle

PUT_IN = ("|", "||", "|||", "|" * 9, "|" * 10, "()", "(]", "[)", "|()", "(|)", "[(])")


def drawn_quire(draw, signature, size, worn):
    while True:
        quire = {"signature": signature, "size": size, "states": {}, "put": {}}
        for leaf in range(1, size + 1):
            partner = quire["states"].get(size + 1 - leaf)
            if size > 1 and partner is None and draw.random() < worn:
                quire["states"][leaf] = draw.choice("−÷")
            elif size > 1 and partner == "−" and draw.random() < worn:
                quire["states"][leaf] = "−"
        for gap in range(size + 1):
            if draw.random() < worn / 2:
                quire["put"][gap] = draw.choice(PUT_IN)
        if size == 1 and quire["put"] and draw.random() < worn:
            quire["states"][1] = "−"
        if oracle.good_word(quire):
            return quire


def drawn_signatures(draw, many):
    """Some signatures, often one behind another, and their sizes."""
    signatures = {}
    while len(signatures) < many:
        times = draw.choice((1, 1, 1, 2, 3, 98, 99))
        sign = draw.randrange(50)
        size = draw.choice((1, 2, 2, 4, 4, 8, 12, 20))
        for step in range(draw.randrange(1, 6)):
            if len(signatures) < many and (times, sign) not in signatures:
                signatures[(times, sign)] = size
            if sign >= 46 or (sign % 23 == 22 and times == 99):
                break
            times, sign = (times + 1, sign - 22) if sign % 23 == 22 else (times, sign + 1)
    return signatures


def drawn_copies(draw, most=8):
    """Copies of one book, mostly in its order and of its sizes, each worn in its own way."""
    signatures = drawn_signatures(draw, draw.choice((1, 2, 3, 5, 8, most)))
    order = list(signatures)
    if draw.random() < 0.5:
        draw.shuffle(order)
    book = {signature: drawn_quire(draw, signature, signatures[signature], 0.1) for signature in order}
    worn = draw.choice((0, 0.05, 0.3))
    return [drawn_copy(draw, order, book, worn) for number in range(draw.choice((1, 2, 2, 3, 5)))]


def drawn_copy(draw, order, book, worn):
    has = [signature for signature in order if draw.random() < 0.7] or order[:1]
    if draw.random() < 0.05:
        has.insert(draw.randrange(len(has)), has.pop())
    quires = []
    for signature in has:
        size = book[signature]["size"]
        if draw.random() < 0.01:
            size = draw.choice((1, 2, 4))
        if draw.random() < 0.4 and size == book[signature]["size"]:
            quires.append(book[signature])
        else:
            quires.append(drawn_quire(draw, signature, size, worn))
    return quires


def text_of(copies):
    return "".join(oracle.written(quires) + "\n" for quires in copies)


def drawn_pair(draw, most=8):
    """A book and a copy that has some of its gatherings, each perhaps worn otherwise, perhaps in another order."""
    signatures = drawn_signatures(draw, draw.choice((1, 2, 3, 5, most)))
    order = list(signatures)
    if draw.random() < 0.5:
        draw.shuffle(order)
    worn = draw.choice((0, 0.1, 0.3))
    book = [drawn_quire(draw, signature, signatures[signature], worn) for signature in order]
    has = [quire for quire in book if draw.random() < draw.choice((0.7, 1))] or book[:1]
    for time in range(draw.choice((0, 0, 1, 2, 4))):
        has.insert(draw.randrange(len(has)), has.pop(draw.randrange(len(has))))
    if draw.random() < 0.2:
        draw.shuffle(has)
    often = draw.choice((0, 0.5, 1))
    return book, [drawn_quire(draw, quire["signature"], quire["size"], worn) if draw.random() < often else quire
                  for quire in has]


def drawn_stranger(draw, copy):
    """A copy with a gathering that its book hasn't so: of another size, or of a signature that may not be there."""
    place = draw.randrange(len(copy))
    if draw.random() < 0.5:
        return copy[:place] + [drawn_quire(draw, copy[place]["signature"], 6, 0.1)] + copy[place + 1:]
    signature = (draw.randrange(1, 100), draw.randrange(50))
    others = [quire for quire in copy if quire["signature"] != signature]
    return others[:place] + [drawn_quire(draw, signature, 2, 0.1)] + others[place:]


def spoilt(draw, text, stuff):
    """A text with a few characters put in, taken out or otherwise, some of them out of stuff."""
    row = list(text)
    for time in range(draw.choice((1, 1, 1, 2, 3))):
        place = draw.randrange(len(row) + 1)
        how = draw.randrange(5)
        if how == 0:
            row.insert(place, draw.choice(stuff))
        elif how == 1 and place < len(row):
            row[place] = draw.choice(stuff)
        elif how == 2 and place < len(row):
            row.pop(place)
        elif how == 3 and len(row) > 1:
            first = draw.randrange(len(row))
            row[place:place] = row[first:first + draw.randrange(1, 9)]
        elif how == 4 and draw.random() < 0.3:
            row = row[:place]
    return "".join(row)


def drawn_lines(draw, book, many):
    """Lines that may mostly be done to the book, though perhaps not to what has become of it."""
    lines = []
    for number in range(many):
        quire = draw.choice(book)
        name = oracle.written_signature(quire["signature"])
        kind = draw.choice("~−÷==+++>>>")
        if kind in "−÷=":
            name += f".{draw.randrange(1, quire['size'] + 1)}"
        elif kind == "+":
            told = draw.choice(("0", "0", "1", "9", "⟨()⟩", "⟨[|)⟩", "⟨||||||||||⟩"))
            name += f".{draw.randrange(quire['size'] + 1)} {told}"
        elif kind == ">" and draw.random() < 0.8:
            name += " " + oracle.written_signature(draw.choice(book)["signature"])
        lines.append(kind + name + "\n")
    return "".join(lines)
