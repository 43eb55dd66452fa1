"""Point 2: fare, close, price."""

import unittest

from tests.helper import END, HUGE, MONEY, ask, begin, buy, chain, close, fare, last, price, run

ONE = chain([1, 2])


class FareCall(unittest.TestCase):
    def test_each_bound_by_itself(self):
        bounds = {"source": 254, "to": 254, "via": 255, "price": MONEY, "last": 1439, "length": END, "breaks": 16}
        for name, bound in bounds.items():
            for number, answer in ((0, 0), (bound, 0), (bound + 1, -22), (HUGE, -22)):
                told = {"first": 0, name: number}
                with self.subTest(told):
                    self.assertEqual(last(begin(), fare(**told)), [answer])

    def test_first_against_last(self):
        for first, until, answer in (
            (0, 0, 0), (600, 600, 0), (599, 600, 0), (1439, 1439, 0),
            (601, 600, -22), (1, 0, -22), (1440, 1439, -22), (HUGE, 1439, -22), (1440, 1440, -22),
        ):
            with self.subTest(first=first, until=until):
                self.assertEqual(last(begin(), fare(first=first, last=until)), [answer])

    def test_from_may_be_to(self):
        self.assertEqual(run(begin(), fare(source=3, to=3), ask([(3, 3, 10, 10)])), [[0], [0], [1000, 0, 1]])

    def test_numbers_go_on_behind_refused_and_closed(self):
        answered = run(begin(), fare(), fare(price=MONEY + 1), fare(), close(1), fare(), close(0), fare())
        self.assertEqual(answered[1:], [[0], [-22], [1], [0], [2], [0], [3]])

    def test_64_fares_and_no_more(self):
        answered = run(begin(), *[fare() for k in range(65)])
        self.assertEqual(answered[1:], [[k] for k in range(64)] + [[-28]])

    def test_closed_fares_are_still_among_the_64(self):
        answered = run(begin(), *[fare() for k in range(64)], close(0), close(63), fare())
        self.assertEqual(answered[-3:], [[0], [0], [-28]])

    def test_22_ahead_of_28(self):
        answered = run(begin(), *[fare() for k in range(64)], fare(breaks=17), fare(breaks=16))
        self.assertEqual(answered[-2:], [[-22], [-28]])

    def test_refused_fare_is_not_there(self):
        self.assertEqual(last(begin(), fare(length=END + 1), ask(ONE)), [-33])
        calls = [begin()] + [fare(price=500)] * 64 + [fare(price=1), ask(ONE)]
        self.assertEqual(last(*calls), [500, 0, 1])


class CloseCall(unittest.TestCase):
    def test_no_such_fare(self):
        self.assertEqual(run(begin(), close(0), fare(), close(1), close(HUGE), close(0))[1:],
                         [[-2], [0], [-2], [-2], [0]])

    def test_closed_already(self):
        self.assertEqual(run(begin(), fare(), close(0), close(0)), [[0], [0], [0], [-2]])

    def test_closed_fare_is_for_no_ticket(self):
        answered = run(begin(), fare(price=5), fare(price=9), ask(ONE), close(0), ask(ONE), buy(ONE), close(1),
                       ask(ONE), buy(ONE))
        self.assertEqual(answered[3:], [[5, 0, 1], [0], [9, 1, 1], [0, 9], [0], [-33], [-33]])


class PriceCall(unittest.TestCase):
    def test_no_such_fare(self):
        self.assertEqual(run(begin(), price(0, 1), fare(), price(1, 1), price(HUGE, 1))[1:], [[-2], [0], [-2], [-2]])

    def test_closed_fare(self):
        self.assertEqual(last(begin(), fare(), close(0), price(0, 1)), [-2])

    def test_bound_of_price(self):
        for number, answer in ((0, 0), (MONEY, 0), (MONEY + 1, -22), (HUGE, -22)):
            self.assertEqual(last(begin(), fare(), price(0, number)), [answer])

    def test_2_ahead_of_22(self):
        self.assertEqual(run(begin(), price(0, MONEY + 1), fare(), close(0), price(0, HUGE))[1:],
                         [[-2], [0], [0], [-2]])

    def test_ask_and_buy_go_by_the_new_price(self):
        answered = run(begin(), fare(price=50), fare(price=60), price(1, 40), ask(ONE), buy(ONE),
                       price(1, 0), ask(ONE), buy(ONE), price(1, MONEY), ask(ONE), price(0, MONEY), ask(ONE))
        self.assertEqual(answered[3:], [[0], [40, 1, 1], [0, 40], [0], [0, 1, 1], [1, 0], [0], [50, 0, 1],
                                        [0], [MONEY, 0, 1]])

    def test_refused_price_changes_nothing(self):
        self.assertEqual(last(begin(), fare(price=50), price(0, MONEY + 1), ask(ONE)), [50, 0, 1])


if __name__ == "__main__":
    unittest.main()
