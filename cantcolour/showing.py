"""Whether complete sets show, by counting alone, that nothing fits."""


def do_show(sets):
    if len(sets) % 2 == 0:
        return False
    counts = {}
    for chosen in sets:
        for i in chosen:
            counts[i] = counts.get(i, 0) + 1
    return all([count % 2 == 0 for count in counts.values()])


# A bit for each direction, and the lowest one for the set itself: in sets laid over one another
# by ^ a bit tells whether the direction stands in an odd number of them, the lowest one
# whether they are odd in number.
def as_bits(chosen):
    return 1 + sum([2 << i for i in chosen])


# Sets show it if, laid over one another, just the lowest bit is left. Each is freed of the
# highest bits that those before it have; so the lowest bit comes to stand alone just if some do.
def some_show(sets):
    by_length = {}
    for chosen in sets:
        bits = as_bits(chosen)
        while bits.bit_length() in by_length:
            bits = bits ^ by_length[bits.bit_length()]
        if bits != 0:
            by_length[bits.bit_length()] = bits
    return 1 in by_length
