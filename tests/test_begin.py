"""Point 1: begin."""

import unittest

from leastfare.office import Office
from tests.helper import HUGE, MONEY, ask, begin, buy, chain, close, fare, price, run

ONE = chain([1, 2])


class Begin(unittest.TestCase):
    def test_bound_of_fee(self):
        for fee in (0, 1, 500, MONEY):
            self.assertEqual(run(begin(fee)), [[0]])
        for fee in (MONEY + 1, HUGE):
            self.assertEqual(run(begin(fee)), [[-22]])

    def test_refused_then_not(self):
        self.assertEqual(run(begin(MONEY + 1), begin(HUGE), begin(7), fare()), [[-22], [-22], [0], [0]])

    def test_no_fares_at_first(self):
        self.assertEqual(run(begin(), ask(ONE), close(0), price(0, 1)), [[0], [-33], [-2], [-2]])

    def test_second_begin_takes_all_away(self):
        answered = run(
            begin(5), fare(price=300), fare(price=200), buy(ONE, now=500), close(1),
            begin(6), ask(ONE), close(0), price(0, 1), buy(ONE, now=0),
            fare(price=400), ask(ONE), buy(ONE, now=0), buy(ONE, now=0),
        )
        self.assertEqual(answered[5:], [[0], [-33], [-2], [-2], [-33], [0], [400, 0, 1], [0, 400], [1, 400]])

    def test_second_begin_makes_room_again(self):
        calls = [begin()] + [fare()] * 64 + [buy(ONE)] * 64 + [fare(), buy(ONE), begin(), fare(), buy(ONE)]
        self.assertEqual(run(*calls)[-5:], [[-28], [-28], [0], [0], [0, 1000]])

    def test_second_begin_that_is_refused_changes_nothing(self):
        answered = run(
            begin(5), fare(price=300), buy(ONE, now=500), begin(MONEY + 1),
            ask(ONE), buy(ONE, now=499), buy(ONE, now=500), fare(),
        )
        self.assertEqual(answered[3:], [[-22], [300, 0, 1], [-4], [1, 300], [1]])

    def test_money_is_none_after_begin(self):
        office = Office()
        office.taken = 1
        office.given = 2
        office.kept = 3
        self.assertEqual(office.begin(MONEY + 1), [-22])
        self.assertEqual((office.fee, office.taken, office.given, office.kept), (0, 1, 2, 3))
        self.assertEqual(office.begin(9), [0])
        self.assertEqual((office.fee, office.taken, office.given, office.kept), (9, 0, 0, 0))


if __name__ == "__main__":
    unittest.main()
