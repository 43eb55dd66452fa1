"""Writes calls as the interface has them, and reads what is answered."""

from leastfare.fares import answers

MONEY = 1_000_000
END = 16_777_216
HUGE = 4_294_967_295


def begin(fee=0):
    return [0, fee]


def fare(source=1, to=2, via=255, price=1000, first=0, last=1439, length=END, breaks=16):
    return [1, source, to, via, price, first, last, length, breaks]


def close(f):
    return [2, f]


def price(f, new_price):
    return [3, f, new_price]


def row(legs):
    numbers = [number for leg in legs for number in leg]
    return [len(numbers)] + numbers


def ask(legs, off=0, least=0):
    return [4, off, least] + row(legs)


def buy(legs, now=0, off=0, least=0):
    return [5, off, least, now] + row(legs)


def chain(stops, dep=600, ride=10, wait=5):
    """Legs from each of the stops to the next, with as long a wait between any two."""
    legs = []
    for source, to in zip(stops, stops[1:]):
        legs.append((source, to, dep, dep + ride))
        dep += ride + wait
    return legs


def line(calls):
    return [number for call in calls for number in call]


def split(answered):
    parts = []
    place = 0
    while place < len(answered):
        parts.append(answered[place + 1:place + 1 + answered[place]])
        place += 1 + answered[place]
    return parts


def run(*calls):
    """What each of these calls answers, on one object."""
    return split(answers(line(calls)))


def last(*calls):
    return run(*calls)[-1]
