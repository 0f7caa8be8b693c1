"""What follows from sayings: sayings thinned, and reasons."""

from sayswho.forms import is_so

MOST_REASONS = 3


def lengthened(some, box):
    told = []
    for values in some:
        told.extend([values + (n,) for n in range(box[1], box[2] + 1)])
    return told


def all_values(program):
    told = [()]
    for box in program[0]:
        told = lengthened(told, box)
    return told


def are_so(some, values):
    for saying in some:
        if not is_so(saying, values):
            return False
    return True


def follows(program, saying, others):
    for values in all_values(program):
        if not is_so(saying, values) and are_so(others, values):
            return False
    return True


# Long lists of sayings are compared by bits, one for each of all values: walking the values for each
# pair or three of sayings would take too long.
def bits_of(truths):
    bits = 0
    for truth in truths:
        bits = bits * 2 + (1 if truth else 0)
    return bits


def so_bits(saying, every):
    return bits_of([is_so(saying, values) for values in every])


def bits_ahead(some_bits, full):
    told = []
    common = full
    for bits in some_bits:
        told.append(common)
        common = common & bits
    return told


def thinned(program, some):
    every = all_values(program)
    full = bits_of([True] * len(every))
    some_bits = [so_bits(saying, every) for saying in some]
    ahead = bits_ahead(some_bits, full)
    behind = full
    left = []
    for place in range(len(some) - 1, -1, -1):
        beside = ahead[place] & behind
        if beside & some_bits[place] != beside:
            left.append(some[place])
            behind = behind & some_bits[place]
    return list(reversed(left))


def first_places(some_bits):
    # Of sayings with like bits the first serves as well as any, and comes first by its place.
    places = {}
    for place, bits in enumerate(some_bits):
        places.setdefault(bits, place)
    return places


def first_enough(wrong, some_bits, start, count):
    if count == 0:
        return [] if wrong == 0 else None
    for k in range(start, len(some_bits)):
        more = first_enough(wrong & some_bits[k], some_bits, k + 1, count - 1)
        if more is not None:
            return [some_bits[k]] + more
    return None


def reason(program, saying, others):
    every = all_values(program)
    wrong = bits_of([not is_so(saying, values) for values in every])
    places = first_places([wrong & so_bits(other, every) for other in others])
    for count in range(MOST_REASONS + 1):
        enough = first_enough(wrong, list(places), 0, count)
        if enough is not None:
            return [others[places[bits]] for bits in enough]
    return None
