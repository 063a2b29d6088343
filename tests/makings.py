"""Make-ups and copies for the tests, drawn from a seeded row of numbers; quires as oracle.py has them."""

import oracle

PUT_IN = ("|", "||", "|||", "|" * 9, "|" * 10, "()", "(]", "[)", "|()", "(|)", "[(])")


def drawn_quire(draw, signature, size, worn):
    while True:
        quire = {"signature": signature, "size": size, "states": {}, "put": {}}
        for leaf in range(1, size + 1):
            partner = quire["states"].get(size + 1 - leaf)
            if size > 1 and partner is None and draw.random() < worn:
                quire["states"][leaf] = draw.choice("−÷")
            elif size > 1 and partner == "−" and draw.random() < worn:
                quire["states"][leaf] = "−"
        for gap in range(size + 1):
            if draw.random() < worn / 2:
                quire["put"][gap] = draw.choice(PUT_IN)
        if size == 1 and quire["put"] and draw.random() < worn:
            quire["states"][1] = "−"
        if oracle.good_word(quire):
            return quire


def drawn_signatures(draw, many):
    """Some signatures, often one behind another, and their sizes."""
    signatures = {}
    while len(signatures) < many:
        times = draw.choice((1, 1, 1, 2, 3, 98, 99))
        sign = draw.randrange(50)
        size = draw.choice((1, 2, 2, 4, 4, 8, 12, 20))
        for step in range(draw.randrange(1, 6)):
            if len(signatures) < many and (times, sign) not in signatures:
                signatures[(times, sign)] = size
            if sign >= 46 or (sign % 23 == 22 and times == 99):
                break
            times, sign = (times + 1, sign - 22) if sign % 23 == 22 else (times, sign + 1)
    return signatures


def drawn_copies(draw, most=8):
    """Copies of one book, mostly in its order and of its sizes, each worn in its own way."""
    signatures = drawn_signatures(draw, draw.choice((1, 2, 3, 5, 8, most)))
    order = list(signatures)
    if draw.random() < 0.5:
        draw.shuffle(order)
    book = {signature: drawn_quire(draw, signature, signatures[signature], 0.1) for signature in order}
    worn = draw.choice((0, 0.05, 0.3))
    return [drawn_copy(draw, order, book, worn) for number in range(draw.choice((1, 2, 2, 3, 5)))]


def drawn_copy(draw, order, book, worn):
    has = [signature for signature in order if draw.random() < 0.7] or order[:1]
    if draw.random() < 0.05:
        has.insert(draw.randrange(len(has)), has.pop())
    quires = []
    for signature in has:
        size = book[signature]["size"]
        if draw.random() < 0.01:
            size = draw.choice((1, 2, 4))
        if draw.random() < 0.4 and size == book[signature]["size"]:
            quires.append(book[signature])
        else:
            quires.append(drawn_quire(draw, signature, size, worn))
    return quires


def text_of(copies):
    return "".join(oracle.written(quires) + "\n" for quires in copies)
