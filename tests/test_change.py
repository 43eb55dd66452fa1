"""Point 8: change."""

import unittest

from tests.helper import END, HUGE, MONEY, ask, back, begin, books, buy, chain, change, close, fare, last, price, ride
from tests.helper import run, tickets

# The first ticket is for two of these legs, which set out at 600, 615 and 630.
THREE = chain([1, 2, 3, 4])
PARTS = [fare(1, 3, price=100), fare(3, 4, price=50)]
SOLD = [begin(10), *PARTS, buy(THREE)]
LAST = THREE[2:]
LATER = chain([3, 4], dep=900)
NO_WAY = chain([4, 1], dep=900)


class Changed(unittest.TestCase):
    def changed(self, fee, paid, cost):
        """What a change answers, and the books then, from tickets of this cost to others of that cost."""
        answered = run(begin(fee), fare(1, 2, price=paid), fare(3, 4, price=cost), buy(chain([1, 2])),
                       change(0, chain([3, 4])), books(), tickets(0))
        self.assertEqual(answered[-1], [1, 1, 1, cost, 0])
        return answered[-3:-1]

    def test_they_cost_more(self):
        self.assertEqual(self.changed(0, 100, 101), [[1], [0, 101, 0, 0]])
        self.assertEqual(self.changed(7, 100, 101), [[8], [0, 108, 0, 7]])
        self.assertEqual(self.changed(7, 0, 100), [[107], [0, 107, 0, 7]])
        self.assertEqual(self.changed(MONEY, 0, MONEY), [[2 * MONEY], [0, 2 * MONEY, 0, MONEY]])

    def test_they_cost_the_same(self):
        self.assertEqual(self.changed(0, 100, 100), [[0], [0, 100, 0, 0]])
        self.assertEqual(self.changed(7, 100, 100), [[7], [0, 107, 0, 7]])
        self.assertEqual(self.changed(7, 0, 0), [[7], [0, 7, 0, 7]])

    def test_they_cost_less(self):
        self.assertEqual(self.changed(0, 100, 99), [[0], [0, 100, 0, 1]])
        self.assertEqual(self.changed(7, 100, 99), [[7], [0, 107, 0, 8]])
        self.assertEqual(self.changed(7, 100, 0), [[7], [0, 107, 0, 107]])

    def test_several_tickets_together(self):
        self.assertEqual(run(*SOLD, change(0, LAST), books(), tickets(0))[4:],
                         [[10], [0, 160, 0, 110], [1, 1, 1, 50, 0]])
        self.assertEqual(run(begin(10), *PARTS, buy(LAST), change(0, THREE), books(), tickets(0))[4:],
                         [[110], [0, 160, 0, 10], [2, 0, 2, 100, 0, 1, 1, 50, 0]])

    def test_to_the_same_journey(self):
        self.assertEqual(run(*SOLD, change(0, THREE), books(), tickets(0))[4:],
                         [[10], [0, 160, 0, 10], [2, 0, 2, 100, 0, 1, 1, 50, 0]])

    def test_the_number_stays(self):
        answered = run(*SOLD, buy(LAST), change(0, LATER), buy(LAST), tickets(0), tickets(1), tickets(2), tickets(3))
        self.assertEqual(answered[5:], [[10], [2, 50]] + [[1, 1, 1, 50, 0]] * 3 + [[-2]])

    def test_only_this_journey(self):
        answered = run(*SOLD, buy(THREE), change(1, LAST), tickets(0), tickets(1), ride(0, 600))
        self.assertEqual(answered[5:], [[10], [2, 0, 2, 100, 0, 1, 1, 50, 0], [1, 1, 1, 50, 0], [2]])

    def test_by_the_card_with_which_it_was_bought(self):
        answered = run(begin(0), *PARTS, buy(LAST), buy(LAST, off=50), buy(LAST, off=100, least=60),
                       buy(LAST, off=90, least=45), change(0, THREE), change(1, THREE), change(2, THREE),
                       change(3, THREE), tickets(0), tickets(1), tickets(2), tickets(3))
        self.assertEqual(answered[3:7], [[0, 50], [1, 25], [2, 50], [3, 45]])
        self.assertEqual(answered[7:11], [[100], [50], [60], [45]])
        self.assertEqual([answer[3::4] for answer in answered[11:]], [[100, 50], [50, 25], [60, 50], [45, 45]])

    def test_the_card_stays_with_a_change(self):
        answered = run(begin(0), *PARTS, buy(LAST, off=50), change(0, THREE), change(0, LAST), change(0, THREE))
        self.assertEqual(answered[3:], [[0, 25], [50], [0], [50]])

    def test_the_card_may_make_others_the_cheapest(self):
        whole = [*PARTS, fare(1, 4, price=151)]
        self.assertEqual(last(begin(), *whole, buy(LAST), change(0, THREE), tickets(0)),
                         [2, 0, 2, 100, 0, 1, 1, 50, 0])
        self.assertEqual(last(begin(), *whole, buy(LAST, off=50, least=40), change(0, THREE), tickets(0)),
                         [1, 2, 3, 75, 0])

    def test_by_fares_as_they_are_now(self):
        self.assertEqual(run(*SOLD, price(0, 130), change(0, THREE), tickets(0))[5:],
                         [[40], [2, 0, 2, 130, 0, 1, 1, 50, 0]])
        self.assertEqual(run(*SOLD, price(0, 30), change(0, THREE), tickets(0), books())[5:],
                         [[10], [2, 0, 2, 30, 0, 1, 1, 50, 0], [0, 160, 0, 80]])
        self.assertEqual(run(*SOLD, fare(1, 4, price=149), change(0, THREE), tickets(0))[5:],
                         [[10], [1, 2, 3, 149, 0]])
        self.assertEqual(run(*SOLD, fare(1, 3, price=170), close(0), change(0, THREE), tickets(0))[6:],
                         [[80], [2, 2, 2, 170, 0, 1, 1, 50, 0]])
        self.assertEqual(run(*SOLD, close(0), change(0, THREE), tickets(0))[5:],
                         [[-33], [2, 0, 2, 100, 0, 1, 1, 50, 0]])

    def test_is_what_was_asked(self):
        legs = chain([1, 2, 1, 2, 1])
        fares = [fare(1, 2, price=41), fare(2, 1, price=43), fare(1, 1, price=85, length=30)]
        answered = run(begin(), *fares, buy(legs[:1], 0, 33, 30), ask(legs, 33, 30), change(0, legs), tickets(0))
        asked, answer, sold = answered[-3:]
        self.assertEqual(answer, [asked[0] - answered[4][1]])
        self.assertEqual(sum(sold[3::4]), asked[0])
        self.assertEqual([sold[1::4], sold[2::4]], [asked[1::2], asked[2::2]])

    def test_a_change_behind_a_change_goes_by_the_tickets_that_are_there(self):
        answered = run(*SOLD, change(0, LAST), books(), change(0, THREE), books(), change(0, THREE), books())
        self.assertEqual(answered[4:], [[10], [0, 160, 0, 110], [110], [0, 270, 0, 120], [10], [0, 280, 0, 130]])

    def test_a_price_that_changed_between_two_changes(self):
        answered = run(*SOLD, price(1, 60), change(0, LAST), price(1, 75), change(0, LATER), books())
        self.assertEqual(answered[5:], [[10], [0], [25], [0, 185, 0, 110]])


class TheNewJourney(unittest.TestCase):
    def test_is_ridden(self):
        self.assertEqual(run(*SOLD, change(0, LATER, 700), ride(0, 900), ride(0, 900))[4:], [[10], [0], [-11]])
        self.assertEqual(run(begin(), *PARTS, buy(LAST), change(0, THREE), ride(0, 600), ride(0, 615), ride(0, 630),
                             ride(0, 630))[4:], [[100], [2], [1], [0], [-11]])

    def test_its_legs_count_for_now(self):
        self.assertEqual(last(*SOLD, change(0, LATER), ride(0, 901)), [-16])
        self.assertEqual(last(begin(), *PARTS, buy(LATER), change(0, THREE), ride(0, 601)), [-16])

    def test_is_given_back(self):
        self.assertEqual(run(*SOLD, change(0, LATER), back(0, 899), tickets(0), ride(0, 900), books())[4:],
                         [[10], [40], [1, 1, 1, 50, 1], [-1], [0, 160, 40, 120]])
        self.assertEqual(last(*SOLD, change(0, LATER), back(0, 900)), [0])

    def test_no_leg_was_ridden_that_was_ridden_on_another(self):
        self.assertEqual(run(*SOLD, buy(THREE), ride(1, 0), change(0, LAST), change(1, LAST))[6:], [[10], [-17]])


class Refused(unittest.TestCase):
    def test_no_such_journey(self):
        self.assertEqual(run(begin(), *PARTS, change(0, THREE), change(HUGE, THREE))[3:], [[-2], [-2]])
        self.assertEqual(run(*SOLD, change(1, THREE), change(64, THREE), change(HUGE, THREE))[4:], [[-2]] * 3)
        self.assertEqual(last(*SOLD, begin(), *PARTS, change(0, THREE)), [-2])

    def test_now_below_the_greatest(self):
        self.assertEqual(run(*SOLD, back(0, 700), change(0, LATER, 699))[5:], [[-4]])
        self.assertEqual(run(*SOLD, change(0, LATER, 700), change(0, LATER, 699), change(0, LATER, 700))[4:],
                         [[10], [-4], [10]])

    def test_now_below_the_end(self):
        late = [(3, 4, END - 1, END - 1)]
        self.assertEqual(last(*SOLD, change(0, late, END - 1)), [10])
        self.assertEqual(last(*SOLD, change(0, late, END)), [-4])
        self.assertEqual(last(*SOLD, change(0, late, HUGE)), [-4])

    def test_a_leg_was_ridden(self):
        self.assertEqual(last(*SOLD, ride(0, 0), change(0, LATER)), [-17])
        self.assertEqual(last(*SOLD, ride(0, 0), ride(0, 0), ride(0, 0), change(0, LATER)), [-17])

    def test_a_ride_that_was_refused_is_none(self):
        self.assertEqual(last(*SOLD, ride(0, 601), change(0, LATER)), [10])

    def test_a_ticket_was_given_back(self):
        self.assertEqual(last(*SOLD, back(0, 0), change(0, LATER)), [-17])
        # Only the second one, which sets out later than now.
        self.assertEqual(run(*SOLD, back(0, 600), tickets(0), change(0, LATER, 600))[4:],
                         [[40], [2, 0, 2, 100, 0, 1, 1, 50, 1], [-17]])

    def test_a_ticket_was_given_back_for_nothing(self):
        self.assertEqual(run(begin(MONEY), *PARTS, buy(THREE), back(0, 0), change(0, LATER))[4:], [[0], [-17]])

    def test_nothing_was_to_be_given_back(self):
        self.assertEqual(run(*SOLD, back(0, 700), change(0, LATER, 700))[4:], [[0], [10]])

    def test_what_is_no_journey(self):
        loop = [begin(), fare(1, 1), buy(chain([1, 1]))]
        for many, answer in ((0, -22), (1, 0), (16, 0), (17, -22), (20, -22)):
            legs = chain([1] * (many + 1)) if many else []
            self.assertEqual(last(*loop, change(0, legs)), [answer])
        for legs in ([(1, 255, 0, 0)], [(255, 1, 0, 0)], [(1, 1, 5, 4)], [(1, 1, 0, END)], [(1, 1, 0, 5), (1, 1, 4, 9)],
                     [(1, 1, 0, 0), (2, 1, 0, 0)], [(HUGE, HUGE, HUGE, HUGE)]):
            self.assertEqual(last(*loop, change(0, legs)), [-22])

    def test_its_first_leg_sets_out_before_now(self):
        for now, answer in ((899, 10), (900, 10), (901, -16)):
            self.assertEqual(last(*SOLD, change(0, LATER, now)), [answer])
        self.assertEqual(last(begin(), *PARTS, buy(LATER), change(0, THREE, 601)), [-16])

    def test_the_one_before_may_have_set_out(self):
        self.assertEqual(last(*SOLD, change(0, LATER, 800)), [10])

    def test_no_tickets(self):
        self.assertEqual(last(*SOLD, change(0, NO_WAY)), [-33])

    def test_order(self):
        ridden = [*SOLD, buy(THREE), ride(0, 500)]
        self.assertEqual(last(*ridden, change(2, [], 499)), [-4])
        self.assertEqual(last(*ridden, change(0, [], 499)), [-4])
        self.assertEqual(last(*ridden, change(1, NO_WAY, END)), [-4])
        self.assertEqual(last(*ridden, change(2, [], 500)), [-2])
        self.assertEqual(last(*ridden, change(2, [(4, 1, 5, 5)], 500)), [-2])
        self.assertEqual(last(*ridden, change(0, [], 500)), [-17])
        self.assertEqual(last(*ridden, change(0, [(4, 1, 499, 600)], 500)), [-17])
        self.assertEqual(last(*ridden, change(0, NO_WAY, 500)), [-17])
        self.assertEqual(last(*ridden, back(1, 500), change(1, [], 500)), [-17])
        self.assertEqual(last(*ridden, change(1, [(4, 1, 5, 4)], 500)), [-22])
        self.assertEqual(last(*ridden, change(1, [(4, 1, 499, 498)], 500)), [-22])
        self.assertEqual(last(*ridden, change(1, [(4, 1, 499, 600)], 500)), [-16])
        self.assertEqual(last(*ridden, change(1, [(4, 1, 500, 600)], 500)), [-33])
        self.assertEqual(last(*ridden, change(1, [(3, 4, 500, 600)], 500)), [10])

    def test_refused_changes_nothing_not_now_either(self):
        cases = (
            ([], change(0, LATER, END), -4),
            ([], change(0, LATER, 399), -4),
            ([], change(2, LATER, 700), -2),
            ([ride(0, 400)], change(0, LATER, 500), -17),
            ([back(0, 400)], change(0, LATER, 500), -17),
            ([], change(0, LATER[:0], 500), -22),
            ([], change(0, THREE, 700), -16),
            ([], change(0, NO_WAY, 500), -33),
        )
        for ahead, call, answer in cases:
            with self.subTest(call=call):
                calls = [*SOLD, buy(LAST, now=400), *ahead]
                state = [books(), tickets(0), tickets(1)]
                answered = run(*calls, *state, call, *state, ride(1, 400))[len(calls):]
                self.assertEqual(answered[3], [answer])
                self.assertEqual(answered[:3], answered[4:7])
                self.assertEqual(answered[7], [0])

    def test_refused_leaves_the_legs(self):
        self.assertEqual(run(*SOLD, change(0, NO_WAY), change(0, []), ride(0, 600), ride(0, 615), ride(0, 630))[6:],
                         [[2], [1], [0]])

    def test_64_sold(self):
        calls = [begin(10), *PARTS] + [buy(LAST)] * 64
        answered = run(*calls, buy(LAST), change(0, THREE), change(63, LATER), tickets(63), change(64, LATER))
        self.assertEqual(answered[len(calls):], [[-28], [110], [10], [1, 1, 1, 50, 0], [-2]])


class Now(unittest.TestCase):
    def test_a_change_tells_now_to_every_call(self):
        for call in (ride(0, 699), back(1, 699), change(0, LATER, 699), buy(LATER, now=699)):
            self.assertEqual(last(*SOLD, buy(THREE), change(0, LATER, 700), call), [-4])
        for call, answer in ((ride(0, 700), [0]), (back(0, 700), [40]), (buy(LATER, now=700), [2, 50])):
            self.assertEqual(last(*SOLD, buy(THREE), change(0, LATER, 700), call), answer)


if __name__ == "__main__":
    unittest.main()
