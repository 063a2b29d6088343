"""Which members of a row are moved, so that the others rise."""


# The places of the fewest whose taking out leaves a rising row; of as many those that come first.
def places_to_move(row):
    lengths = rising_lengths(row)
    to_keep = max(lengths, default=0)
    last = -1
    moved = []
    for place, number in enumerate(row):
        # Of rows that are as long the one that has this place comes first, whatever follows in them.
        if can_keep(row, lengths, place + 1, last, to_keep):
            moved.append(place)
        else:
            last = number
            to_keep -= 1
    return moved


# For each place how many the longest rising row has that begins there.
def rising_lengths(row):
    lengths = [1] * len(row)
    for place in range(len(row) - 1, -1, -1):
        behind = [lengths[later] for later in range(place + 1, len(row)) if row[later] > row[place]]
        lengths[place] = 1 + max(behind, default=0)
    return lengths


# Whether from a place on there's a rising row of at least so many, all above last.
def can_keep(row, lengths, start, last, many):
    if many == 0:
        return True
    return any([row[place] > last and lengths[place] >= many for place in range(start, len(row))])
