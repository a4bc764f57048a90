"""Whose a number is, what most of the scribes are, and what is settled by writings."""


def is_most(count, many):
    # Doubled rather than halved, so that an odd count needs no rounding.
    return 2 * many > count


def scribe_of(count, number):
    return number % count


def next_number(count, scribe, seen):
    least = seen + 1
    return least + (scribe - least) % count


def best_of(rows):
    best = {}
    for row in rows:
        for place, entry in row.items():
            if place not in best or best[place][0] < entry[0]:
                best[place] = entry
    return best


def free_place(said):
    place = 0
    while place in said:
        place += 1
    return place


# Tuples (place, number, saying, taken): by the first `taken` writings, and by no fewer, the saying is settled at the
# place under that number. They come in the order in which the writings settle them.
def settlings(count, writings):
    writers = {}
    found = []
    for taken, (number, scribe, place, saying) in enumerate(writings, start=1):
        hands = writers.setdefault((place, number, saying), {})
        # A writing may name a number that is no scribe's: it can't help to make most of the scribes.
        if scribe in hands or not 0 <= scribe < count:
            continue
        hands[scribe] = True
        if is_most(count, len(hands)) and not is_most(count, len(hands) - 1):
            found.append((place, number, saying, taken))
    return found


def settled_in(count, writings):
    pairs = {}
    for place, number, saying, taken in sorted(settlings(count, writings)):
        # A key that comes again keeps its first place in the dict, which is that of its least number.
        pairs[(place, saying)] = True
    return list(pairs)


def first_settled(count, writings):
    first = {}
    for place, number, saying, taken in settlings(count, writings):
        first.setdefault(place, taken)
    return sorted(first.items())
