"""Point 6: ride."""

import unittest

from tests.helper import END, HUGE, back, begin, books, buy, chain, change, fare, last, ride, run, tickets

ONE = chain([1, 2])
# These set out at 600, 615 and 630; the first ticket is for two of them.
THREE = chain([1, 2, 3, 4])
PARTS = [fare(1, 3, price=100), fare(3, 4, price=50)]
SOLD = [begin(10), *PARTS, buy(THREE)]


class Ridden(unittest.TestCase):
    def test_leg_by_leg_down_to_none(self):
        answered = run(*SOLD, ride(0, 600), ride(0, 615), ride(0, 630), ride(0, 630))
        self.assertEqual(answered[4:], [[2], [1], [0], [-11]])

    def test_one_leg(self):
        self.assertEqual(run(begin(), fare(), buy(ONE), ride(0, 0), ride(0, 0))[3:], [[0], [-11]])

    def test_16_legs(self):
        legs = chain([1] * 17)
        answered = run(begin(), fare(1, 1), buy(legs), *[ride(0, leg[2]) for leg in legs], ride(0, 10000))
        self.assertEqual(answered[3:], [[left] for left in range(15, -1, -1)] + [[-11]])

    def test_each_journey_by_itself(self):
        answered = run(*SOLD, buy(THREE), ride(1, 5), ride(0, 5), ride(1, 5),
                       ride(1, 5), ride(0, 5), ride(1, 5), ride(0, 5))
        self.assertEqual(answered[5:], [[2], [2], [1], [0], [1], [-11], [0]])

    def test_sets_out_at_now_or_later(self):
        for now, answer in ((0, 2), (599, 2), (600, 2), (601, -16), (10000, -16)):
            self.assertEqual(last(*SOLD, ride(0, now)), [answer])

    def test_it_is_the_next_leg_that_counts(self):
        for now, answer in ((614, 1), (615, 1), (616, -16)):
            self.assertEqual(last(*SOLD, ride(0, 600), ride(0, now)), [answer])
        for now, answer in ((629, 0), (630, 0), (631, -16)):
            self.assertEqual(last(*SOLD, ride(0, 600), ride(0, 600), ride(0, now)), [answer])

    def test_a_leg_that_was_missed_keeps_the_later_ones_from_being_ridden(self):
        self.assertEqual(run(*SOLD, back(0, 601), ride(0, 601), ride(0, 615), ride(0, 630))[5:], [[-16]] * 3)

    def test_moves_no_money(self):
        self.assertEqual(run(*SOLD, books(), ride(0, 600), books())[-3:], [[0, 150, 0, 0], [2], [0, 150, 0, 0]])


class Refused(unittest.TestCase):
    def test_no_such_journey(self):
        self.assertEqual(run(begin(), ride(0, 0), ride(HUGE, 0))[1:], [[-2], [-2]])
        self.assertEqual(run(*SOLD, ride(1, 0), ride(64, 0), ride(HUGE, 0), ride(0, 0))[4:], [[-2]] * 3 + [[2]])

    def test_no_journey_after_begin(self):
        self.assertEqual(last(*SOLD, ride(0, 600), begin(), ride(0, 0)), [-2])

    def test_now_below_the_greatest(self):
        self.assertEqual(run(*SOLD, ride(0, 500), ride(0, 499), ride(0, 0), ride(0, 500))[4:], [[2], [-4], [-4], [1]])

    def test_now_below_the_end(self):
        late = [begin(), fare(), buy([(1, 2, END - 1, END - 1)])]
        self.assertEqual(last(*late, ride(0, END - 1)), [0])
        self.assertEqual(last(*late, ride(0, END)), [-4])
        self.assertEqual(last(*late, ride(0, HUGE)), [-4])

    def test_its_ticket_was_given_back(self):
        self.assertEqual(run(*SOLD, back(0, 0), ride(0, 0), ride(0, 600))[4:], [[130], [-1], [-1]])

    def test_first_and_last_leg_of_a_ticket(self):
        answered = run(*SOLD, ride(0, 600), back(0, 600), ride(0, 600), ride(0, 600), ride(0, 630))
        self.assertEqual(answered[4:], [[2], [40], [1], [-1], [-1]])

    def test_which_ticket_each_leg_has(self):
        fares = [fare(1, 2, price=1), fare(2, 5, price=1), fare(5, 7, price=1)]
        legs = chain([1, 2, 3, 4, 5, 6, 7])
        for ridden, good in ((0, 0), (1, 1), (2, 4), (3, 4), (4, 4), (5, 6), (6, 6)):
            with self.subTest(ridden=ridden):
                calls = [begin(), *fares, buy(legs)] + [ride(0, 0)] * ridden + [back(0, 0)]
                rides = run(*calls, *[ride(0, 0)] * (good - ridden), ride(0, 0))[len(calls):]
                self.assertEqual(rides[:-1], [[left] for left in range(5 - ridden, 5 - good, -1)])
                self.assertEqual(rides[-1], [-1] if good < 6 else [-11])

    def test_order(self):
        over = [*SOLD, ride(0, 600), ride(0, 600), ride(0, 600)]
        given = [*SOLD, back(0, 500)]
        self.assertEqual(last(*given, ride(1, 499)), [-4])
        self.assertEqual(last(*given, ride(0, 499)), [-4])
        self.assertEqual(last(*given, ride(0, END)), [-4])
        self.assertEqual(last(*given, ride(1, END)), [-4])
        self.assertEqual(last(*over, ride(0, 599)), [-4])
        self.assertEqual(last(*over, ride(1, 10000)), [-2])
        self.assertEqual(last(*over, ride(0, 10000)), [-11])
        self.assertEqual(last(*given, ride(0, 601)), [-16])
        self.assertEqual(last(*given, ride(0, 600)), [-1])


class Now(unittest.TestCase):
    def test_refused_changes_nothing_not_now_either(self):
        one = [*SOLD, fare(price=3), buy(ONE, now=400)]
        cases = (
            ([], ride(0, END), -4),
            ([], ride(0, 399), -4),
            ([], ride(2, 500), -2),
            ([ride(1, 400)], ride(1, 500), -11),
            ([], ride(1, 601), -16),
            ([back(1, 400)], ride(1, 500), -1),
        )
        for ahead, call, answer in cases:
            with self.subTest(answer=answer):
                state = [books(), tickets(0), tickets(1)]
                answered = run(*one, *ahead, *state, call, *state, buy(ONE, now=400), ride(0, 400))[len(one + ahead):]
                self.assertEqual(answered[3], [answer])
                self.assertEqual(answered[:3], answered[4:7])
                self.assertEqual(answered[7:], [[2, 3], [2]])

    def test_refused_leaves_the_next_leg(self):
        answered = run(*SOLD, ride(0, 700), ride(0, 600), ride(0, 616), ride(0, 615), ride(0, 631), ride(0, 630))
        self.assertEqual(answered[4:], [[-16], [2], [-16], [1], [-16], [0]])

    def test_a_ride_tells_now_to_every_call(self):
        for call in (ride(0, 599), ride(1, 599), back(0, 599), back(1, 599), change(1, THREE, 599),
                     buy(THREE, now=599)):
            self.assertEqual(last(*SOLD, buy(THREE), ride(0, 600), call), [-4])
        for call, answer in ((ride(0, 600), [1]), (ride(1, 600), [2]), (back(0, 600), [40]), (back(1, 600), [40]),
                             (change(1, THREE, 600), [10]), (buy(THREE, now=600), [2, 150])):
            self.assertEqual(last(*SOLD, buy(THREE), ride(0, 600), call), answer)

    def test_every_call_tells_now_to_a_ride(self):
        for call in (ride(1, 600), back(1, 600), change(1, THREE, 600), buy(THREE, now=600)):
            self.assertEqual(run(*SOLD, buy(THREE), call, ride(0, 599), ride(0, 600))[-2:], [[-4], [2]])


if __name__ == "__main__":
    unittest.main()
