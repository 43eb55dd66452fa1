"""Point 7: back."""

import unittest

from tests.helper import END, HUGE, MONEY, back, begin, books, buy, chain, change, close, fare, last, price, ride
from tests.helper import run, tickets

ONE = chain([1, 2])
# These set out at 600, 615 and 630; the first ticket is for two of them.
THREE = chain([1, 2, 3, 4])
PARTS = [fare(1, 3, price=100), fare(3, 4, price=50)]
SOLD = [begin(10), *PARTS, buy(THREE)]


class GivenBack(unittest.TestCase):
    def test_all_tickets(self):
        self.assertEqual(run(*SOLD, back(0, 0), tickets(0), books())[4:],
                         [[130], [2, 0, 2, 100, 1, 1, 1, 50, 1], [0, 150, 130, 20]])

    def test_only_of_this_journey(self):
        answered = run(*SOLD, buy(THREE), back(1, 0), tickets(0), tickets(1), books())
        self.assertEqual(answered[5:], [[130], [2, 0, 2, 100, 0, 1, 1, 50, 0], [2, 0, 2, 100, 1, 1, 1, 50, 1],
                                        [0, 300, 130, 20]])

    def test_not_if_a_leg_was_ridden_but_the_later_ones_are(self):
        answered = run(*SOLD, ride(0, 0), back(0, 0), tickets(0), books())
        self.assertEqual(answered[5:], [[40], [2, 0, 2, 100, 0, 1, 1, 50, 1], [0, 150, 40, 10]])

    def test_not_if_all_of_its_legs_were_ridden(self):
        self.assertEqual(run(*SOLD, ride(0, 0), ride(0, 0), back(0, 0), books())[6:], [[40], [0, 150, 40, 10]])
        self.assertEqual(run(*SOLD, ride(0, 0), ride(0, 0), ride(0, 0), back(0, 0), tickets(0), books())[7:],
                         [[0], [2, 0, 2, 100, 0, 1, 1, 50, 0], [0, 150, 0, 0]])

    def test_first_leg_is_to_set_out_later_than_now(self):
        for now, answer in ((598, 130), (599, 130), (600, 40), (601, 40), (615, 40), (629, 40), (630, 0), (631, 0),
                            (10000, 0)):
            with self.subTest(now=now):
                self.assertEqual(last(*SOLD, back(0, now)), [answer])

    def test_later_legs_of_a_ticket_do_not_matter(self):
        whole = [begin(10), fare(1, 4, price=100), buy(THREE)]
        for now, answer in ((599, 90), (600, 0), (601, 0), (629, 0)):
            self.assertEqual(last(*whole, back(0, now)), [answer])

    def test_what_stays_may_still_be_ridden(self):
        self.assertEqual(run(*SOLD, back(0, 600), ride(0, 600), ride(0, 615), ride(0, 630))[4:],
                         [[40], [2], [1], [-1]])

    def test_not_again(self):
        answered = run(*SOLD, back(0, 0), back(0, 0), back(0, 599), tickets(0), books())
        self.assertEqual(answered[4:], [[130], [0], [0], [2, 0, 2, 100, 1, 1, 1, 50, 1], [0, 150, 130, 20]])
        answered = run(*SOLD, ride(0, 0), back(0, 0), back(0, 0), books())
        self.assertEqual(answered[5:], [[40], [0], [0, 150, 40, 10]])

    def test_what_was_paid_not_what_it_costs_now(self):
        for changed in (price(0, MONEY), price(0, 0), close(0)):
            self.assertEqual(run(*SOLD, changed, back(0, 0), books())[5:], [[130], [0, 150, 130, 20]])

    def test_what_was_paid_with_the_card(self):
        self.assertEqual(run(begin(10), *PARTS, buy(THREE, off=50), back(0, 0), books())[4:],
                         [[55], [0, 75, 55, 20]])

    def test_no_more_than_was_paid_goes_back_after_a_change(self):
        answered = run(begin(10), *PARTS, buy(THREE), change(0, THREE[2:]), back(0, 0), back(0, 0), books())
        self.assertEqual(answered[4:], [[10], [40], [0], [0, 160, 40, 120]])


class Fee(unittest.TestCase):
    def given(self, fee, *prices):
        fares = [fare(k, k + 1, price=cost) for k, cost in enumerate(prices)]
        answered = run(begin(fee), *fares, buy(chain(list(range(len(prices) + 1)))), back(0, 0), books(), tickets(0))
        self.assertEqual(answered[-1][4::4], [1] * len(prices))
        self.assertEqual(answered[-2][:2], [0, sum(prices)])
        self.assertEqual(answered[-2][2], answered[-3][0])
        return answered[-2][2:]

    def test_below_equal_and_above_what_was_paid(self):
        for fee, given, kept in ((0, 100, 0), (1, 99, 1), (99, 1, 99), (100, 0, 100), (101, 0, 100), (MONEY, 0, 100)):
            self.assertEqual(self.given(fee, 100), [given, kept])

    def test_for_each_ticket(self):
        self.assertEqual(self.given(30, 100, 100, 100), [210, 90])
        self.assertEqual(self.given(30, 100, 20), [70, 50])
        self.assertEqual(self.given(30, 20, 100), [70, 50])
        self.assertEqual(self.given(30, 30, 29, 31), [1, 89])

    def test_what_cost_nothing(self):
        self.assertEqual(self.given(0, 0), [0, 0])
        self.assertEqual(self.given(30, 0, 100), [70, 30])

    def test_the_greatest(self):
        self.assertEqual(self.given(0, *[MONEY] * 16), [16 * MONEY, 0])
        self.assertEqual(self.given(MONEY, *[MONEY] * 16), [0, 16 * MONEY])

    def test_fee_of_the_last_begin(self):
        answered = run(begin(10), begin(MONEY + 1), fare(price=100), buy(ONE), back(0, 0), begin(20), fare(price=100),
                       buy(ONE), back(0, 0))
        self.assertEqual((answered[4], answered[8]), ([90], [80]))


class Refused(unittest.TestCase):
    def test_no_such_journey(self):
        self.assertEqual(run(begin(), back(0, 0), back(HUGE, 0))[1:], [[-2], [-2]])
        self.assertEqual(run(*SOLD, back(1, 0), back(64, 0), back(HUGE, 0))[4:], [[-2]] * 3)
        self.assertEqual(last(*SOLD, begin(), back(0, 0)), [-2])

    def test_now_below_the_greatest(self):
        self.assertEqual(run(*SOLD, buy(THREE, now=500), back(0, 499), back(0, 0), back(0, 500))[5:],
                         [[-4], [-4], [130]])

    def test_now_below_the_end(self):
        late = [begin(), fare(price=70), buy([(1, 2, END - 1, END - 1)])]
        self.assertEqual(last(*late, back(0, END - 2)), [70])
        self.assertEqual(last(*late, back(0, END - 1)), [0])
        self.assertEqual(last(*late, back(0, END)), [-4])
        self.assertEqual(last(*late, back(0, HUGE)), [-4])

    def test_4_ahead_of_2(self):
        self.assertEqual(run(*SOLD, buy(THREE, now=500), back(2, 499), back(2, END), back(2, 500))[5:],
                         [[-4], [-4], [-2]])

    def test_refused_changes_nothing_not_now_either(self):
        for call, answer in ((back(0, END), -4), (back(0, 399), -4), (back(2, 700), -2)):
            state = [books(), tickets(0), tickets(1)]
            calls = [*SOLD, buy(THREE, now=400)]
            answered = run(*calls, *state, call, *state, ride(0, 400))[len(calls):]
            self.assertEqual(answered[3], [answer])
            self.assertEqual(answered[:3], answered[4:7])
            self.assertEqual(answered[7], [2])


class Now(unittest.TestCase):
    def test_told_when_something_is_given_back(self):
        self.assertEqual(run(*SOLD, buy(THREE), back(0, 500), ride(1, 499), ride(1, 500))[5:], [[130], [-4], [2]])

    def test_told_when_nothing_is_to_be_given_back(self):
        self.assertEqual(run(*SOLD, back(0, 700), buy(chain([1, 3], dep=900), now=699), back(0, 699), ride(0, 699),
                             change(0, chain([1, 3], dep=900), 699), buy(chain([1, 3], dep=900), now=700))[4:],
                         [[0], [-4], [-4], [-4], [-4], [1, 100]])


if __name__ == "__main__":
    unittest.main()
