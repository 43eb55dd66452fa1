"""Point 3: what ask refuses, what a fare covers, and what the card does."""

import unittest

from tests.helper import END, HUGE, MONEY, ask, begin, chain, close, fare, last, run


def asked(legs, **told):
    """What ask answers if there is just the one fare that is told."""
    return last(begin(), fare(**told), ask(legs))


class Refused(unittest.TestCase):
    def refuse(self, legs):
        every = [fare(source=a, to=b) for a in range(1, 4) for b in range(1, 4)]
        self.assertEqual(last(begin(), *every, ask(legs)), [-22])

    def test_bounds_of_the_card(self):
        one = chain([1, 2])
        self.assertEqual(last(begin(), fare(), ask(one, off=100)), [0, 0, 1])
        self.assertEqual(last(begin(), fare(), ask(one, off=101)), [-22])
        self.assertEqual(last(begin(), fare(), ask(one, off=HUGE)), [-22])
        self.assertEqual(last(begin(), fare(), ask(one, least=MONEY)), [1000, 0, 1])
        self.assertEqual(last(begin(), fare(), ask(one, least=MONEY + 1)), [-22])
        self.assertEqual(last(begin(), fare(), ask(one, least=HUGE)), [-22])

    def test_how_many_legs(self):
        self.refuse([])
        for many in (1, 2, 15, 16):
            self.assertEqual(asked(chain([1] * (many + 1)), to=1), [1000, 0, many])
        for many in (17, 18, 19, 20):
            self.refuse(chain([1] * (many + 1)))

    def test_stops(self):
        self.assertEqual(asked([(254, 254, 0, 0)], source=254, to=254), [1000, 0, 1])
        for stop in (255, 256, HUGE):
            self.refuse([(stop, 2, 0, 0)])
            self.refuse([(1, stop, 0, 0)])
            self.refuse([(1, stop, 0, 0), (stop, 2, 0, 0)])
            self.refuse([(1, 2, 0, 0), (2, stop, 0, 0)])

    def test_comes_before_it_sets_out(self):
        self.assertEqual(asked([(1, 2, 100, 100)]), [1000, 0, 1])
        self.refuse([(1, 2, 100, 99)])
        self.refuse([(1, 2, 100, 0)])
        self.refuse([(1, 3, 90, 95), (3, 2, 100, 99)])

    def test_not_from_where_the_one_before_came(self):
        self.refuse([(1, 2, 100, 110), (3, 2, 120, 130)])
        self.refuse([(1, 2, 100, 110), (1, 2, 120, 130)])
        self.refuse([(1, 3, 100, 110), (3, 1, 120, 130), (3, 2, 140, 150)])

    def test_sets_out_before_the_one_before_came(self):
        self.assertEqual(asked([(1, 3, 100, 110), (3, 2, 110, 130)]), [1000, 0, 2])
        self.refuse([(1, 3, 100, 110), (3, 2, 109, 130)])
        self.refuse([(1, 3, 100, 110), (3, 1, 110, 120), (1, 2, 119, 130)])

    def test_arr_is_below_the_end(self):
        self.assertEqual(asked([(1, 2, END - 1, END - 1)]), [1000, 0, 1])
        self.assertEqual(asked([(1, 2, 0, END - 1)]), [1000, 0, 1])
        self.refuse([(1, 2, 0, END)])
        self.refuse([(1, 2, END, END)])
        self.refuse([(1, 2, 0, HUGE)])
        self.refuse([(1, 3, 0, 0), (3, 2, 0, END)])

    def test_22_ahead_of_33(self):
        one = chain([1, 2])
        self.assertEqual(run(begin(), ask([]), ask(one, off=101), ask(one)), [[0], [-22], [-22], [-33]])

    def test_no_tickets(self):
        legs = chain([1, 2, 3])
        self.assertEqual(last(begin(), ask(legs)), [-33])
        self.assertEqual(last(begin(), fare(1, 2), ask(legs)), [-33])
        self.assertEqual(last(begin(), fare(2, 3), ask(legs)), [-33])
        self.assertEqual(last(begin(), fare(1, 2), fare(2, 3), ask(legs)), [2000, 0, 1, 1, 1])
        self.assertEqual(last(begin(), fare(1, 2), fare(2, 3), close(1), ask(legs)), [-33])

    def test_ask_changes_nothing(self):
        calls = [begin(), fare(), ask(chain([1, 2], dep=5000))] + [ask(chain([1, 2]))] * 70
        self.assertEqual(run(*calls)[2:], [[1000, 0, 1]] * 71)


class Covered(unittest.TestCase):
    def test_from_and_to(self):
        legs = chain([1, 3, 2])
        self.assertEqual(asked(legs), [1000, 0, 2])
        self.assertEqual(asked(legs, source=3), [-33])
        self.assertEqual(asked(legs, to=3), [-33])
        self.assertEqual(asked(legs, source=2, to=1), [-33])
        self.assertEqual(asked(legs, source=0), [-33])

    def test_via(self):
        legs = chain([1, 3, 4, 2])
        for via, good in ((3, True), (4, True), (255, True), (1, False), (2, False), (0, False), (254, False)):
            with self.subTest(via=via):
                self.assertEqual(asked(legs, via=via), [1000, 0, 3] if good else [-33])

    def test_last_stop_is_no_via(self):
        self.assertEqual(asked(chain([1, 2]), via=2), [-33])
        self.assertEqual(asked(chain([1, 3, 2]), via=2), [-33])
        self.assertEqual(asked(chain([1, 2, 2]), via=2), [1000, 0, 2])

    def test_first_stop_is_no_via_unless_one_comes_there(self):
        self.assertEqual(asked(chain([1, 3, 2]), via=1), [-33])
        self.assertEqual(asked(chain([1, 3, 1, 2]), via=1), [1000, 0, 3])

    def test_via_254_is_a_stop(self):
        self.assertEqual(asked(chain([1, 254, 2]), via=254), [1000, 0, 2])
        self.assertEqual(asked(chain([1, 3, 2]), via=254), [-33])

    def test_via_is_to_lie_on_the_tickets_own_legs(self):
        legs = chain([1, 3, 2, 4])
        self.assertEqual(last(begin(), fare(1, 2), fare(2, 4, via=3), ask(legs)), [-33])
        self.assertEqual(last(begin(), fare(1, 3), fare(3, 4, via=3), ask(legs)), [-33])
        self.assertEqual(last(begin(), fare(1, 2, via=3), fare(2, 4), ask(legs)), [2000, 0, 2, 1, 1])

    def test_dep_at_first_and_last(self):
        for day in (0, 1440, 11 * 1440, 11649 * 1440):
            for minute, good in ((539, False), (540, True), (541, True), (599, True), (600, True), (601, False)):
                with self.subTest(day=day, minute=minute):
                    legs = [(1, 2, day + minute, day + minute)]
                    self.assertEqual(asked(legs, first=540, last=600), [1000, 0, 1] if good else [-33])

    def test_dep_at_the_day_s_edges(self):
        for dep, first, until, good in (
            (1440, 0, 0, True), (1439, 0, 0, False), (1441, 0, 0, False), (2879, 1439, 1439, True),
            (2880, 1439, 1439, False), (1440, 1, 1439, False), (1439, 0, 1438, False),
        ):
            with self.subTest(dep=dep):
                self.assertEqual(asked([(1, 2, dep, dep + 1)], first=first, last=until),
                                 [1000, 0, 1] if good else [-33])

    def test_each_dep_counts(self):
        def legs(one, two, three):
            return [(1, 3, one, one), (3, 4, two, two), (4, 2, three, three)]
        window = {"first": 540, "last": 600}
        self.assertEqual(asked(legs(540, 570, 600), **window), [1000, 0, 3])
        self.assertEqual(asked(legs(539, 570, 600), **window), [-33])
        self.assertEqual(asked(legs(540, 570, 601), **window), [-33])
        self.assertEqual(asked(legs(540, 601, 1440 + 600), **window), [-33])
        self.assertEqual(asked(legs(540, 1440 + 539, 1440 + 600), **window), [-33])
        self.assertEqual(asked(legs(600, 1440 + 540, 1440 + 600), **window), [1000, 0, 3])

    def test_arr_may_be_at_any_time_of_day(self):
        self.assertEqual(asked([(1, 2, 600, 1300)], first=600, last=600), [1000, 0, 1])

    def test_length_to_the_minute(self):
        legs = [(1, 3, 1000, 1040), (3, 2, 1050, 1090)]
        self.assertEqual(asked(legs, length=90), [1000, 0, 2])
        self.assertEqual(asked(legs, length=91), [1000, 0, 2])
        self.assertEqual(asked(legs, length=89), [-33])
        self.assertEqual(asked([(1, 2, 7, 7)], length=0), [1000, 0, 1])
        self.assertEqual(asked([(1, 2, 7, 8)], length=0), [-33])
        self.assertEqual(asked([(1, 2, 0, END - 1)], length=END - 1), [1000, 0, 1])
        self.assertEqual(asked([(1, 2, 0, END - 1)], length=END - 2), [-33])

    def test_length_is_counted_from_the_tickets_own_first_leg(self):
        legs = [(1, 3, 100, 150), (3, 2, 200, 250)]
        fares = [fare(1, 3, length=50), fare(3, 2, length=50)]
        self.assertEqual(last(begin(), *fares, ask(legs)), [2000, 0, 1, 1, 1])

    def test_a_break_is_more_than_60_minutes(self):
        def legs(wait):
            return chain([1, 3, 2], wait=wait)
        self.assertEqual(asked(legs(60), breaks=0), [1000, 0, 2])
        self.assertEqual(asked(legs(61), breaks=0), [-33])
        self.assertEqual(asked(legs(61), breaks=1), [1000, 0, 2])
        self.assertEqual(asked(legs(100000), breaks=1), [1000, 0, 2])

    def test_how_many_breaks(self):
        legs = [(1, 3, 0, 1), (3, 4, 62, 63), (4, 5, 123, 130), (5, 2, 191, 191)]
        self.assertEqual(asked(legs, breaks=2), [1000, 0, 4])
        self.assertEqual(asked(legs, breaks=1), [-33])
        many = chain([1] * 17, wait=61)
        self.assertEqual(asked(many, to=1, breaks=15), [1000, 0, 16])
        self.assertEqual(asked(many, to=1, breaks=14), [2000, 0, 15, 0, 1])

    def test_a_break_between_two_tickets_is_of_neither(self):
        legs = chain([1, 3, 2], wait=500)
        self.assertEqual(last(begin(), fare(1, 3, breaks=0), fare(3, 2, breaks=0), ask(legs)), [2000, 0, 1, 1, 1])

    def test_a_long_ride_is_no_break(self):
        self.assertEqual(asked(chain([1, 3, 2], ride=500), breaks=0), [1000, 0, 2])

    def test_closed(self):
        self.assertEqual(run(begin(), fare(), close(0), ask(chain([1, 2])))[-1], [-33])


class CardCost(unittest.TestCase):
    def cost(self, price, off, least):
        answered = last(begin(), fare(price=price), ask(chain([1, 2]), off=off, least=least))
        self.assertEqual(answered[1:], [0, 1])
        return answered[0]

    def test_hundredths_rounded_down(self):
        for price, off, cost in (
            (1000, 0, 1000), (1000, 25, 750), (1000, 100, 0), (999, 50, 499), (1, 1, 0), (1, 99, 0), (1, 0, 1),
            (101, 1, 99), (199, 1, 197), (100, 1, 99), (33, 33, 22), (MONEY, 1, 990000), (999999, 1, 989999),
            (0, 50, 0),
        ):
            with self.subTest(price=price, off=off):
                self.assertEqual(self.cost(price, off, 0), cost)

    def test_not_below_least(self):
        self.assertEqual(self.cost(1000, 50, 499), 500)
        self.assertEqual(self.cost(1000, 50, 500), 500)
        self.assertEqual(self.cost(1000, 50, 501), 501)
        self.assertEqual(self.cost(1000, 100, 1), 1)

    def test_never_more_than_the_price(self):
        self.assertEqual(self.cost(1000, 50, 999), 999)
        self.assertEqual(self.cost(1000, 50, 1000), 1000)
        self.assertEqual(self.cost(1000, 50, 1001), 1000)
        self.assertEqual(self.cost(1000, 0, MONEY), 1000)
        self.assertEqual(self.cost(0, 0, 7), 0)

    def test_each_ticket_by_itself(self):
        legs = chain([1, 3, 2])
        fares = [fare(1, 3, price=101), fare(3, 2, price=101)]
        self.assertEqual(last(begin(), *fares, ask(legs, off=50)), [100, 0, 1, 1, 1])
        self.assertEqual(last(begin(), *fares, ask(legs, off=50, least=60)), [120, 0, 1, 1, 1])
        self.assertEqual(last(begin(), *fares, ask(legs, off=50, least=900)), [202, 0, 1, 1, 1])

    def test_card_may_make_others_the_cheapest(self):
        fares = [fare(1, 3, price=100), fare(3, 2, price=100), fare(1, 2, price=201)]
        legs = chain([1, 3, 2])
        self.assertEqual(last(begin(), *fares, ask(legs)), [200, 0, 1, 1, 1])
        self.assertEqual(last(begin(), *fares, ask(legs, off=50, least=60)), [100, 2, 2])


if __name__ == "__main__":
    unittest.main()
