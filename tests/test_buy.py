"""Point 4: buy."""

import unittest

from leastfare.journeys import legs_of
from leastfare.office import Office
from tests.helper import END, HUGE, MONEY, ask, begin, buy, chain, close, fare, last, line, price, run

ONE = chain([1, 2])
LATE = [(1, 2, END - 1, END - 1)]


class Sold(unittest.TestCase):
    def test_number_and_cost(self):
        self.assertEqual(run(begin(), fare(price=70), buy(ONE), buy(ONE, off=50), buy(ONE, off=50, least=60))[2:],
                         [[0, 70], [1, 35], [2, 60]])

    def test_several_tickets_cost_together(self):
        legs = chain([1, 2, 3])
        self.assertEqual(last(begin(), fare(1, 2, price=40), fare(2, 3, price=50), fare(1, 3, price=99), buy(legs)),
                         [0, 90])

    def test_costs_what_was_asked(self):
        legs = chain([1, 2, 1, 2, 1])
        fares = [fare(1, 2, price=41), fare(2, 1, price=43), fare(1, 1, price=85, length=30)]
        answered = run(begin(), *fares, ask(legs, 33, 30), buy(legs, 0, 33, 30))
        self.assertEqual(answered[-1], [0, answered[-2][0]])

    def test_64_sales_and_no_more(self):
        answered = run(begin(), fare(price=3), *[buy(ONE) for k in range(66)])
        self.assertEqual(answered[2:], [[k, 3] for k in range(64)] + [[-28]] * 2)

    def test_numbers_go_on_behind_refused(self):
        answered = run(begin(), fare(price=3), buy(ONE), buy(ONE, now=601), buy(ONE), buy(chain([2, 1])), buy([]),
                       buy(ONE))
        self.assertEqual(answered[2:], [[0, 3], [-16], [1, 3], [-33], [-22], [2, 3]])

    def test_so_much_is_taken_and_kept_as_sold(self):
        office = Office()
        legs = legs_of(line(ONE))
        self.assertEqual(office.add_fare(fare(price=70)[1:]), [0])
        self.assertEqual(office.buy(0, 0, 5, legs), [0, 70])
        self.assertEqual(office.set_price(0, 30), [0])
        self.assertEqual(office.buy(50, 10, 6, legs), [1, 15])
        self.assertEqual(office.close_fare(0), [0])
        self.assertEqual(office.buy(0, 0, 7, legs), [-33])
        self.assertEqual((office.taken, office.given, office.kept, office.now), (85, 0, 0, 6))
        sold = [(sale.card.off, sale.card.least, [(t.fare, t.leg_count, t.paid) for t in sale.tickets])
                for sale in office.sales]
        self.assertEqual(sold, [(0, 0, [(0, 1, 70)]), (50, 10, [(0, 1, 15)])])

    def test_what_is_paid_for_each_ticket(self):
        office = Office()
        for told in (fare(1, 2, price=40), fare(2, 3, price=51), fare(3, 4, price=0)):
            office.add_fare(told[1:])
        self.assertEqual(office.buy(50, 22, 0, legs_of(line(chain([1, 2, 3, 4])))), [0, 47])
        self.assertEqual([(t.fare, t.leg_count, t.paid) for t in office.sales[0].tickets],
                         [(0, 1, 22), (1, 1, 25), (2, 1, 0)])


class Now(unittest.TestCase):
    def test_not_below_the_greatest_that_was_told(self):
        answered = run(begin(), fare(price=3), buy(ONE, now=100), buy(ONE, now=99), buy(ONE, now=0),
                       buy(ONE, now=100), buy(ONE, now=101), buy(ONE, now=100))
        self.assertEqual(answered[2:], [[0, 3], [-4], [-4], [1, 3], [2, 3], [-4]])

    def test_below_the_end(self):
        self.assertEqual(last(begin(), fare(price=3), buy(LATE, now=END - 1)), [0, 3])
        self.assertEqual(last(begin(), fare(price=3), buy(LATE, now=END)), [-4])
        self.assertEqual(last(begin(), fare(price=3), buy(LATE, now=HUGE)), [-4])

    def test_first_leg_sets_out_no_earlier(self):
        self.assertEqual(last(begin(), fare(price=3), buy(ONE, now=599)), [0, 3])
        self.assertEqual(last(begin(), fare(price=3), buy(ONE, now=600)), [0, 3])
        self.assertEqual(last(begin(), fare(price=3), buy(ONE, now=601)), [-16])

    def test_later_legs_do_not_matter_to_now(self):
        fares = [fare(1, 3, price=3)]
        self.assertEqual(last(begin(), *fares, buy(chain([1, 2, 3]), now=601)), [-16])
        self.assertEqual(last(begin(), *fares, buy(chain([1, 2, 3]), now=600)), [0, 3])

    def test_refused_changes_nothing_not_now_either(self):
        refused = (
            (buy(LATE, now=END), -4),
            (buy(LATE, now=700, off=101), -22),
            (buy([], now=700), -22),
            (buy(ONE, now=700), -16),
            (buy(chain([2, 1], dep=800), now=700), -33),
        )
        for call, answer in refused:
            with self.subTest(answer=answer):
                answered = run(begin(), fare(price=3), buy(ONE, now=9), call, buy(ONE, now=8), buy(ONE, now=9))
                self.assertEqual(answered[2:], [[0, 3], [answer], [-4], [1, 3]])

    def test_28_does_not_change_now(self):
        answered = run(begin(), fare(price=3), *[buy(ONE)] * 64, buy(ONE, now=50), buy(ONE, now=0), buy(ONE, now=601))
        self.assertEqual(answered[-3:], [[-28], [-28], [-16]])

    def test_other_calls_do_not_change_now(self):
        answered = run(begin(), fare(price=3), buy(ONE, now=9), ask(LATE), price(0, 4), fare(), close(1),
                       buy(ONE, now=9))
        self.assertEqual(answered[-1], [1, 4])


class Order(unittest.TestCase):
    """Each refusal where all those behind it would do as well."""

    def full(self, call):
        return last(begin(), fare(price=3), *[buy(ONE, now=500)] * 64, call)

    def test_4_first(self):
        self.assertEqual(self.full(buy([], now=499, off=101)), [-4])
        self.assertEqual(self.full(buy([(2, 1, 0, 0)], now=END)), [-4])
        self.assertEqual(self.full(buy(ONE, now=499)), [-4])

    def test_22_then(self):
        self.assertEqual(self.full(buy([(2, 1, 5, 4)], now=500)), [-22])
        self.assertEqual(self.full(buy([(2, 1, 5, 5)], now=500, off=101)), [-22])
        self.assertEqual(self.full(buy([(2, 1, 5, 5)], now=500, least=MONEY + 1)), [-22])
        self.assertEqual(self.full(buy(chain([1] * 18, dep=0), now=500)), [-22])

    def test_16_then(self):
        self.assertEqual(self.full(buy([(2, 1, 499, 700)], now=500)), [-16])

    def test_33_then(self):
        self.assertEqual(self.full(buy([(2, 1, 500, 700)], now=500)), [-33])

    def test_28_then(self):
        self.assertEqual(self.full(buy([(1, 2, 500, 700)], now=500)), [-28])

    def test_card_and_journey_have_the_bounds_of_ask(self):
        for off, least, answer in ((100, 0, [0, 0]), (101, 0, [-22]), (0, MONEY, [0, 3]), (0, MONEY + 1, [-22])):
            self.assertEqual(last(begin(), fare(price=3), buy(ONE, off=off, least=least)), answer)
        for many, answer in ((0, [-22]), (1, [0, 3]), (16, [0, 3]), (17, [-22]), (20, [-22])):
            legs = chain([1] * (many + 1)) if many else []
            self.assertEqual(last(begin(), fare(1, 1, price=3), buy(legs)), answer)


if __name__ == "__main__":
    unittest.main()
