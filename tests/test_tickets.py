"""Point 5: tickets."""

import unittest

from tests.helper import HUGE, MONEY, ask, back, begin, books, buy, chain, change, close, fare, last, price, ride
from tests.helper import run, tickets

ONE = chain([1, 2])
THREE = chain([1, 2, 3, 4])
PARTS = [fare(1, 3, price=101), fare(3, 4, price=50)]


class Tickets(unittest.TestCase):
    def test_no_such_journey(self):
        answered = run(begin(), tickets(0), tickets(HUGE), fare(), tickets(0), buy(ONE), tickets(0), tickets(1),
                       tickets(64), tickets(HUGE))
        self.assertEqual(answered[1:], [[-2], [-2], [0], [-2], [0, 1000], [1, 0, 1, 1000, 0], [-2], [-2], [-2]])

    def test_a_refused_buy_is_no_journey(self):
        self.assertEqual(last(begin(), fare(), buy(ONE, now=601), tickets(0)), [-2])

    def test_one_ticket_for_several_legs(self):
        self.assertEqual(last(begin(), fare(1, 3), fare(1, 4, price=77), buy(THREE), tickets(0)), [1, 1, 3, 77, 0])

    def test_several_tickets(self):
        self.assertEqual(last(begin(), *PARTS, buy(THREE), tickets(0)), [2, 0, 2, 101, 0, 1, 1, 50, 0])

    def test_16_tickets(self):
        fares = [fare(k, k + 1, price=k * k) for k in range(16)]
        self.assertEqual(last(begin(), *fares, buy(chain(list(range(17)))), tickets(0)),
                         [16] + [number for k in range(16) for number in (k, 1, k * k, 0)])

    def test_paid_with_the_card_for_each_ticket(self):
        self.assertEqual(last(begin(), *PARTS, buy(THREE, off=50), tickets(0)), [2, 0, 2, 50, 0, 1, 1, 25, 0])
        self.assertEqual(last(begin(), *PARTS, buy(THREE, off=50, least=40), tickets(0)), [2, 0, 2, 50, 0, 1, 1, 40, 0])
        self.assertEqual(last(begin(), *PARTS, buy(THREE, off=50, least=60), tickets(0)), [2, 0, 2, 60, 0, 1, 1, 50, 0])

    def test_each_journey_has_its_own(self):
        answered = run(begin(), *PARTS, buy(THREE), buy(THREE[2:]), buy(THREE[:2], off=100), tickets(1), tickets(2),
                       tickets(0))
        self.assertEqual(answered[-3:], [[1, 1, 1, 50, 0], [1, 0, 2, 0, 0], [2, 0, 2, 101, 0, 1, 1, 50, 0]])

    def test_the_last_of_64(self):
        calls = [begin(), fare(price=5)] + [buy(ONE)] * 64
        self.assertEqual(run(*calls, tickets(63), tickets(64))[-2:], [[1, 0, 1, 5, 0], [-2]])

    def test_given_back(self):
        answered = run(begin(7), *PARTS, buy(THREE), back(0, 600), tickets(0))
        self.assertEqual(answered[-1], [2, 0, 2, 101, 0, 1, 1, 50, 1])
        answered = run(begin(7), *PARTS, buy(THREE), buy(THREE), back(1, 599), tickets(0), tickets(1))
        self.assertEqual(answered[-2:], [[2, 0, 2, 101, 0, 1, 1, 50, 0], [2, 0, 2, 101, 1, 1, 1, 50, 1]])

    def test_a_ride_shows_nothing(self):
        self.assertEqual(last(begin(), *PARTS, buy(THREE), ride(0, 600), ride(0, 600), tickets(0)),
                         [2, 0, 2, 101, 0, 1, 1, 50, 0])

    def test_stays_as_it_was_sold(self):
        sold = [2, 0, 2, 101, 0, 1, 1, 50, 0]
        answered = run(begin(), *PARTS, buy(THREE), price(0, 1), tickets(0), close(1), tickets(0), fare(1, 4, price=0),
                       tickets(0), price(0, MONEY), tickets(0), close(0), tickets(0))
        self.assertEqual(answered[5::2], [sold] * 5)

    def test_has_no_now_and_changes_nothing(self):
        calls = [begin(), *PARTS, buy(THREE, now=9)]
        answered = run(*calls, books(), tickets(0), tickets(0), tickets(1), books(), buy(THREE, now=9), ask(THREE))
        self.assertEqual(answered[4:], [[0, 151, 0, 0]] + [[2, 0, 2, 101, 0, 1, 1, 50, 0]] * 2 + [[-2]]
                         + [[0, 151, 0, 0], [1, 151], [151, 0, 2, 1, 1]])

    def test_no_journey_after_begin(self):
        answered = run(begin(), fare(), buy(ONE), begin(MONEY + 1), tickets(0), begin(), tickets(0))
        self.assertEqual(answered[-3:], [[1, 0, 1, 1000, 0], [0], [-2]])

    def test_after_a_change(self):
        self.assertEqual(last(begin(), *PARTS, buy(THREE), change(0, THREE[2:]), tickets(0)), [1, 1, 1, 50, 0])


if __name__ == "__main__":
    unittest.main()
