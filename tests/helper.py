"""Writes calls as the interface has them, reads what is answered, and finds the cheapest tickets by trying all."""

from leastfare.fares import answers

MONEY = 1_000_000
END = 16_777_216
HUGE = 4_294_967_295


def begin(fee=0):
    return [0, fee]


def fare(source=1, to=2, via=255, price=1000, first=0, last=1439, length=END, breaks=16):
    return [1, source, to, via, price, first, last, length, breaks]


def close(f):
    return [2, f]


def price(f, new_price):
    return [3, f, new_price]


def row(legs):
    numbers = [number for leg in legs for number in leg]
    return [len(numbers)] + numbers


def ask(legs, off=0, least=0):
    return [4, off, least] + row(legs)


def buy(legs, now=0, off=0, least=0):
    return [5, off, least, now] + row(legs)


def tickets(k):
    return [6, k]


def ride(k, now):
    return [7, k, now]


def back(k, now):
    return [8, k, now]


def change(k, legs, now=0):
    return [9, k, now] + row(legs)


def books():
    return [10]


def chain(stops, dep=600, ride=10, wait=5):
    """Legs from each of the stops to the next, with as long a wait between any two."""
    legs = []
    for source, to in zip(stops, stops[1:]):
        legs.append((source, to, dep, dep + ride))
        dep += ride + wait
    return legs


def line(calls):
    return [number for call in calls for number in call]


def split(answered):
    parts = []
    place = 0
    while place < len(answered):
        parts.append(answered[place + 1:place + 1 + answered[place]])
        place += 1 + answered[place]
    return parts


def run(*calls):
    """What each of these calls answers, on one object."""
    return split(answers(line(calls)))


def last(*calls):
    return run(*calls)[-1]


def covered(told, legs):
    """The document's words, one behind another, on the numbers of a fare."""
    source, to, via, cost, first, until, length, breaks = told
    waits = [two[2] - one[3] for one, two in zip(legs, legs[1:])]
    return (
        legs[0][0] == source and legs[-1][1] == to
        and (via == 255 or via in [leg[1] for leg in legs[:-1]])
        and all(first <= leg[2] % 1440 <= until for leg in legs)
        and legs[-1][3] - legs[0][2] <= length
        and len([wait for wait in waits if wait > 60]) <= breaks
    )


def good_tickets(fares, closed, legs):
    """All tickets that are good for these legs, as lists of fare and leg count."""
    if not legs:
        return [[]]
    found = []
    for many in range(1, len(legs) + 1):
        for number, told in enumerate(fares):
            if number not in closed and covered(told, legs[:many]):
                found += [[(number, many)] + rest for rest in good_tickets(fares, closed, legs[many:])]
    return found


def cost_with(card, cost):
    off, least = card
    return min(cost, max(least, (cost * 100 - cost * off) // 100))


def best_tickets(fares, closed, legs, card):
    """The cheapest tickets, as lists of fare and leg count, or None if no tickets are good."""
    def rank(found):
        costs = [cost_with(card, fares[number][3]) for number, many in found]
        return sum(costs), len(found), [(-many, number) for number, many in found]

    return min(good_tickets(fares, closed, legs), key=rank, default=None)
