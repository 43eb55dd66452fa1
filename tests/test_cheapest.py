"""Point 3: which tickets are the cheapest, and how they are told apart."""

import random
import time
import unittest

from leastfare.fares import answers
from tests.helper import ask, begin, best_tickets, chain, close, cost_with, fare, last, line, run, split


def expected(fares, closed, legs, off, least):
    best = best_tickets(fares, closed, legs, (off, least))
    if best is None:
        return [-33]
    cost = sum(cost_with((off, least), fares[number][3]) for number, many in best)
    return [cost] + [number for ticket in best for number in ticket]


class ToldApart(unittest.TestCase):
    def test_one_ticket_against_several(self):
        legs = chain([1, 2, 3])
        parts = [fare(1, 2, price=40), fare(2, 3, price=50)]
        self.assertEqual(last(begin(), *parts, fare(1, 3, price=89), ask(legs)), [89, 2, 2])
        self.assertEqual(last(begin(), *parts, fare(1, 3, price=91), ask(legs)), [90, 0, 1, 1, 1])

    def test_cost_goes_ahead_of_number(self):
        self.assertEqual(last(begin(), fare(price=11), fare(price=10), fare(price=12), ask(chain([1, 2]))), [10, 1, 1])

    def test_the_fewest_of_the_same_cost(self):
        legs = chain([1, 2, 3])
        parts = [fare(1, 2, price=40), fare(2, 3, price=50)]
        self.assertEqual(last(begin(), *parts, fare(1, 3, price=90), ask(legs)), [90, 2, 2])
        free = [fare(1, 2, price=0), fare(2, 3, price=0), fare(1, 3, price=0)]
        self.assertEqual(last(begin(), *free, ask(legs)), [0, 2, 2])

    def test_the_fewest_go_ahead_of_the_first_for_the_most_legs(self):
        legs = chain([1, 2, 3, 4, 5])
        fares = [fare(1, 4, price=10), fare(4, 5, price=10), fare(1, 2, price=10), fare(2, 5, price=10)]
        self.assertEqual(last(begin(), *fares, ask(legs)), [20, 0, 3, 1, 1])
        fares = [fare(1, 3, price=10), fare(3, 4, price=5), fare(4, 5, price=5), fare(1, 2, price=10),
                 fare(2, 5, price=10)]
        self.assertEqual(last(begin(), *fares, ask(legs)), [20, 3, 1, 4, 3])

    def test_the_first_for_the_most_legs(self):
        legs = chain([1, 2, 3, 4])
        fares = [fare(1, 2, price=10), fare(2, 4, price=10), fare(1, 3, price=10), fare(3, 4, price=10)]
        self.assertEqual(last(begin(), *fares, ask(legs)), [20, 2, 2, 3, 1])

    def test_the_lesser_fare(self):
        legs = chain([1, 2])
        self.assertEqual(last(begin(), fare(price=10), fare(price=10), ask(legs)), [10, 0, 1])
        self.assertEqual(last(begin(), fare(price=10), fare(price=10), close(0), ask(legs)), [10, 1, 1])

    def test_the_most_legs_go_ahead_of_the_lesser_fare(self):
        stops = [1, 1, 1, 1]
        fares = [fare(1, 1, price=10, length=0), fare(1, 1, price=10, length=25), fare(1, 1, price=10, length=10)]
        self.assertEqual(last(begin(), *fares, ask(chain(stops))), [20, 1, 2, 1, 1])

    def test_the_lesser_fare_by_what_it_costs_with_the_card(self):
        fares = [fare(price=100), fare(price=90), fare(price=80)]
        self.assertEqual(last(begin(), *fares, ask(chain([1, 2]), off=30, least=75)), [75, 0, 1])
        self.assertEqual(last(begin(), *fares, ask(chain([1, 2]), off=10, least=85)), [80, 2, 1])

    def test_the_first_lesser_fare_though_the_rest_costs_the_same(self):
        legs = chain([1, 2, 3])
        fares = [fare(1, 2, price=7), fare(2, 3, price=3), fare(1, 2, price=7), fare(2, 3, price=3)]
        self.assertEqual(last(begin(), *fares, ask(legs)), [10, 0, 1, 1, 1])

    def test_the_second_for_the_most_legs(self):
        legs = chain([1, 2, 3, 4, 5])
        fares = [fare(1, 2, price=1), fare(2, 3, price=1), fare(3, 5, price=1), fare(2, 4, price=1),
                 fare(4, 5, price=1)]
        self.assertEqual(last(begin(), *fares, ask(legs)), [3, 0, 1, 3, 2, 4, 1])

    def test_the_second_of_the_lesser_fare(self):
        legs = chain([1, 2, 3])
        fares = [fare(1, 2, price=1), fare(2, 3, price=2), fare(2, 3, price=1), fare(2, 3, price=1)]
        self.assertEqual(last(begin(), *fares, ask(legs)), [2, 0, 1, 2, 1])

    def test_a_cheap_beginning_may_lead_nowhere(self):
        legs = chain([1, 2, 3, 4])
        fares = [fare(1, 3, price=1), fare(1, 2, price=50), fare(2, 4, price=50)]
        self.assertEqual(last(begin(), *fares, ask(legs)), [100, 1, 1, 2, 2])


class AgainstAllThatAreGood(unittest.TestCase):
    def legs(self, source):
        stop = source.randint(0, 2)
        minute = source.choice((0, 500, 1380, 1439))
        legs = []
        for k in range(source.randint(1, 5)):
            to = source.randint(0, 2)
            arr = minute + source.choice((0, 1, 20))
            legs.append((stop, to, minute, arr))
            stop = to
            minute = arr + source.choice((0, 1, 59, 60, 61, 400))
        return legs

    def told(self, source):
        window = source.choice(((0, 1439), (0, 1439), (0, 1439), (0, 500), (1, 1439), (500, 620), (560, 1438)))
        return (source.randint(0, 2), source.randint(0, 2), source.choice((255, 255, 255, 0, 1, 2)),
                source.choice((0, 10, 10, 20, 30, 33)), window[0], window[1],
                source.choice((0, 1, 21, 81, 500, 16777216, 16777216)), source.choice((0, 1, 1, 16)))

    def test_small_journeys(self):
        source = random.Random(1)
        sold = 0
        for turn in range(800):
            fares = [self.told(source) for k in range(source.randint(4, 24))]
            closed = source.sample(range(len(fares)), source.choice((0, 0, 1)))
            calls = [begin()] + [fare(*told) for told in fares] + [close(f) for f in closed]
            asks = [(self.legs(source), source.choice((0, 0, 33, 50, 100)), source.choice((0, 0, 9, 15)))
                    for k in range(4)]
            answered = run(*calls, *[ask(*asked) for asked in asks])[len(calls):]
            for (legs, off, least), answer in zip(asks, answered):
                self.assertEqual(answer, expected(fares, closed, legs, off, least), (fares, closed, legs, off, least))
                sold += answer != [-33]
        self.assertGreater(sold, 1000)


class WhatHolds(unittest.TestCase):
    def test_cards_and_more_fares_are_no_dearer(self):
        source = random.Random(2)
        for turn in range(100):
            legs = chain([source.randint(0, 2) for k in range(8)])
            calls = [begin()]
            for k in range(30):
                calls += [fare(source.randint(0, 2), source.randint(0, 2), price=source.randint(0, 99)),
                          ask(legs), ask(legs, off=source.randint(0, 100), least=source.randint(0, 120))]
            answered = run(*calls)[1:]
            plain = [answer[0] for answer in answered[1::3] if answer[0] >= 0]
            self.assertEqual(plain, sorted(plain, reverse=True))
            for one, other in zip(answered[1::3], answered[2::3]):
                self.assertLessEqual(other[0], one[0])

    def test_there_is_a_ticket_for_every_leg(self):
        answer = last(begin(), fare(1, 1, length=30), fare(1, 1, length=60), ask(chain([1] * 17)))
        self.assertEqual(sum(answer[2::2]), 16)


class Long(unittest.TestCase):
    def test_16_legs_with_64_fares_without_delay(self):
        legs = chain([5] * 17)
        calls = [begin()] + [fare(5, 5, via=7, price=k) for k in range(63)] + [fare(5, 5, price=10 ** 6)]
        calls += [ask(legs)] * 447
        numbers = line(calls)
        self.assertLessEqual(len(numbers), 31000)
        before = time.monotonic()
        answered = split(answers(numbers))
        self.assertLess(time.monotonic() - before, 30)
        self.assertEqual(answered[65:], [[10 ** 6, 63, 16]] * 447)

    def test_16_tickets_of_16_legs(self):
        legs = chain(list(range(17)))
        fares = [fare(k, k + 1, price=k) for k in range(16)] + [fare(0, 16, price=121)] * 48
        self.assertEqual(last(begin(), *fares, ask(legs)), [120] + [n for k in range(16) for n in (k, 1)])


if __name__ == "__main__":
    unittest.main()
