"""The memory of machine code (points 6.1 and 8.6), and what rows make of words."""

from sameclock.ir import apply


def memory_of(contents):
    """Returns the dict from addresses to words, with those of the regions; at all other addresses there is 0."""
    words = []
    for row in contents:
        words.extend(row)
    return dict(enumerate(words))


def contents_of(regions, memory):
    """Returns the tuple of the contents of the regions."""
    return tuple([tuple([memory[at] for at in range(base, base + size)]) for base, size, _ in regions])


def address_of(row, held):
    """Returns the address of a load or store, where the registers hold these words."""
    if row[0] == "load":
        return row[3] + (held[row[2]] & row[4])
    return row[2] + (held[row[1]] & row[3])


def word_of(row, held):
    """Returns the word that a const, op or select writes, where the registers hold these words."""
    if row[0] == "op":
        return apply(row[1], held[row[3]], held[row[4]])
    if row[0] == "const":
        return row[2]
    return held[row[3]] if held[row[2]] != 0 else held[row[4]]
