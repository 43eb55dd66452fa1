"""What holds, over many drawn lists of calls; and what they answer, against the document's words on plain lists."""

import collections
import random
import unittest

from tests.helper import END, MONEY, back, begin, best_tickets, books, buy, change, close, cost_with, fare, price, ride
from tests.helper import ask, run, tickets

LINES = 250


def is_journey(legs):
    return (
        1 <= len(legs) <= 16
        and all(leg[0] < 255 and leg[1] < 255 and leg[2] <= leg[3] < END for leg in legs)
        and all(one[1] == two[0] and one[3] <= two[2] for one, two in zip(legs, legs[1:]))
    )


class Words:
    """Answers each call as the document words it; a sale is a dict, a ticket a list as tickets tells it."""

    def __init__(self):
        self.begin(0)

    def begin(self, fee):
        if fee > MONEY:
            return [-22]
        self.fee, self.fares, self.closed, self.sold = fee, [], [], []
        self.now = self.taken = self.given = self.kept = 0
        return [0]

    def fare(self, *told):
        if len(self.fares) == 64:
            return [-28]
        self.fares.append(list(told))
        return [len(self.fares) - 1]

    def close(self, f):
        if f >= len(self.fares) or f in self.closed:
            return [-2]
        self.closed.append(f)
        return [0]

    def price(self, f, cost):
        if f >= len(self.fares) or f in self.closed:
            return [-2]
        if cost > MONEY:
            return [-22]
        self.fares[f][3] = cost
        return [0]

    def cheapest(self, card, legs):
        best = best_tickets(self.fares, self.closed, legs, card)
        return best and [[f, many, cost_with(card, self.fares[f][3]), 0] for f, many in best]

    def ask(self, off, least, legs):
        if off > 100 or least > MONEY or not is_journey(legs):
            return [-22]
        best = self.cheapest((off, least), legs)
        if not best:
            return [-33]
        return [sum(ticket[2] for ticket in best)] + [number for ticket in best for number in ticket[:2]]

    def wrong_now(self, now):
        return now < self.now or now >= END

    def buy(self, off, least, now, legs):
        if self.wrong_now(now):
            return [-4]
        if off > 100 or least > MONEY or not is_journey(legs):
            return [-22]
        if legs[0][2] < now:
            return [-16]
        best = self.cheapest((off, least), legs)
        if not best:
            return [-33]
        if len(self.sold) == 64:
            return [-28]
        self.sold.append({"legs": legs, "card": (off, least), "tickets": best, "ridden": 0})
        cost = sum(ticket[2] for ticket in best)
        self.taken += cost
        self.now = now
        return [len(self.sold) - 1, cost]

    def tickets(self, k):
        if k >= len(self.sold):
            return [-2]
        held = self.sold[k]["tickets"]
        return [len(held)] + [number for ticket in held for number in ticket]

    def spread(self, k):
        """For each leg of a journey, its ticket."""
        return [ticket for ticket in self.sold[k]["tickets"] for leg in range(ticket[1])]

    def ride(self, k, now):
        if self.wrong_now(now):
            return [-4]
        if k >= len(self.sold):
            return [-2]
        sale = self.sold[k]
        if sale["ridden"] == len(sale["legs"]):
            return [-11]
        if sale["legs"][sale["ridden"]][2] < now:
            return [-16]
        if self.spread(k)[sale["ridden"]][3]:
            return [-1]
        sale["ridden"] += 1
        self.now = now
        return [len(sale["legs"]) - sale["ridden"]]

    def back(self, k, now):
        if self.wrong_now(now):
            return [-4]
        if k >= len(self.sold):
            return [-2]
        self.now = now
        before = self.given
        sale = self.sold[k]
        start = 0
        for ticket in sale["tickets"]:
            if ticket[3] == 0 and sale["ridden"] <= start and sale["legs"][start][2] > now:
                ticket[3] = 1
                self.given += max(ticket[2] - self.fee, 0)
                self.kept += min(ticket[2], self.fee)
            start += ticket[1]
        return [self.given - before]

    def change(self, k, now, legs):
        if self.wrong_now(now):
            return [-4]
        if k >= len(self.sold):
            return [-2]
        sale = self.sold[k]
        if sale["ridden"] or [ticket for ticket in sale["tickets"] if ticket[3]]:
            return [-17]
        if not is_journey(legs):
            return [-22]
        if legs[0][2] < now:
            return [-16]
        best = self.cheapest(sale["card"], legs)
        if not best:
            return [-33]
        old, new = sum(ticket[2] for ticket in sale["tickets"]), sum(ticket[2] for ticket in best)
        due = self.fee
        self.kept += self.fee
        if new > old:
            due += new - old
        else:
            self.kept += old - new
        self.taken += due
        sale["legs"], sale["tickets"] = legs, best
        self.now = now
        return [due]

    def books(self):
        return [0, self.taken, self.given, self.kept]


class Draw:
    """Draws one call behind another; what it draws goes by what the calls before have left."""

    def __init__(self, seed):
        self.source = random.Random(seed)
        self.words = Words()

    def pick(self, *choices):
        return self.source.choice(choices)

    def minute(self):
        """A now: near the greatest that was told, or where it matters to a journey."""
        deps = [leg[2] + self.pick(-1, 0, 0, 1) for sale in self.words.sold for leg in sale["legs"]
                if leg[2] > self.words.now]
        if deps and self.source.random() < 0.3:
            return sorted(deps)[0]
        return max(0, self.words.now + self.pick(0, 0, 0, 0, 1, -1, 15, END if self.source.random() < 0.2 else 0))

    def journey(self, now):
        stop = self.source.randrange(3)
        minute = max(0, now % END + self.pick(0, 1, 30, 30, 90, 400, -1))
        legs = []
        for k in range(self.pick(0, 1, 1, 2, 2, 3, 3, 4) if self.source.random() < 0.3 else self.pick(1, 2, 3, 4)):
            to = self.source.randrange(3)
            arr = minute + self.pick(0, 1, 20)
            legs.append((stop, to, minute, arr))
            stop = to if self.source.random() < 0.98 else self.pick(0, 1, 2, 255)
            minute = arr + self.pick(0, 1, 5, 60, 61)
        return legs

    def fare_told(self):
        return (self.source.randrange(3), self.source.randrange(3), self.pick(255, 255, 255, 255, 1),
                self.pick(0, 5, 10, 20, 33, 100), 0, self.pick(1439, 1439, 900), self.pick(30, 200, END, END),
                self.pick(0, 1, 16))

    def sale(self):
        return self.source.randrange(len(self.words.sold) + (self.source.random() < 0.1 or not self.words.sold))

    def card(self):
        return self.pick((0, 0), (0, 0), (50, 0), (25, 9), (100, 0), (100, 7), (101, 0))

    def f(self):
        return self.source.randrange(len(self.words.fares) + 1)

    def call(self):
        """The name of a call and what it is handed."""
        names = ["fare"] * 2 + ["close", "price", "price", "ask", "tickets", "books"] + ["buy"] * 6 + ["ride"] * 8
        name = self.pick(*names, *["back"] * 3, *["change"] * 5)
        if self.source.random() < 0.004:
            return "begin", (self.pick(0, 3, MONEY + 1),)
        now = self.minute()
        return name, {
            "fare": self.fare_told,
            "close": lambda: (self.f(),),
            "price": lambda: (self.f(), self.pick(0, 1, 10, 15, 40, MONEY + 1)),
            "ask": lambda: (*self.card(), self.journey(now)),
            "buy": lambda: (*self.card(), now, self.journey(now)),
            "tickets": lambda: (self.sale(),),
            "ride": lambda: (self.sale(), now),
            "back": lambda: (self.sale(), now),
            "change": lambda: (self.sale(), now, self.journey(now)),
            "books": lambda: (),
        }[name]()

    def calls(self, many):
        """So many calls behind a beginning, each with its name, what it is handed, and what the words answer."""
        ahead = [("begin", (MONEY + 1,)), ("begin", (self.pick(0, 1, 6, 10, 50, MONEY),))]
        ahead += [("fare", self.fare_told()) for k in range(self.source.randint(6, 14))]
        drawn = []
        while len(drawn) < len(ahead) + many:
            name, told = ahead[len(drawn)] if len(drawn) < len(ahead) else self.call()
            drawn.append((name, told, getattr(self.words, name)(*told)))
        return drawn


def written(name, told):
    """A drawn call as the interface has it."""
    return {
        "begin": begin, "fare": fare, "close": close, "price": price, "tickets": tickets, "ride": ride, "back": back,
        "books": books,
        "ask": lambda off, least, legs: ask(legs, off, least),
        "buy": lambda off, least, now, legs: buy(legs, now, off, least),
        "change": lambda k, now, legs: change(k, legs, now),
    }[name](*told)


class AgainstTheWords(unittest.TestCase):
    def test_drawn_lists(self):
        seen = collections.Counter()
        for seed in range(LINES):
            drawn = Draw(seed).calls(150)
            answered = run(*[written(name, told) for name, told, answer in drawn])
            for place, (name, told, answer) in enumerate(drawn):
                self.assertEqual(answered[place], answer, (seed, place, name, told))
                seen[name, min(answer[0], 0)] += 1
        # All that may be answered was drawn, and not just once.
        for name, refusals in (("ride", (-4, -2, -11, -16, -1, 0)), ("back", (-4, -2, 0)), ("tickets", (-2, 0)),
                               ("change", (-4, -2, -17, -22, -16, -33, 0)), ("buy", (-4, -22, -16, -33, 0))):
            for number in refusals:
                self.assertGreater(seen[name, number], 20, (name, number))

    def test_long_lists(self):
        full = 0
        for seed in range(5):
            drawn = Draw(seed).calls(1500)
            answered = run(*[written(name, told) for name, told, answer in drawn])
            self.assertEqual(answered, [answer for name, told, answer in drawn])
            full += sum(name == "buy" and answer == [-28] for name, told, answer in drawn)
        self.assertGreater(full, 5)


class State:
    """What books and tickets tell behind a call."""

    def __init__(self, answered):
        self.taken, self.given, self.kept = answered[0][1:]
        self.held = [[tuple(told[place:place + 4]) for place in range(1, len(told), 4)]
                     for told in answered[1:] if told != [-2]]


class WhatHolds(unittest.TestCase):
    """Goes by what the program answers alone."""

    def follow(self, drawn):
        """For each call: its name, what it is handed, what it answers, and the state ahead of it and behind it."""
        most = sum(name == "buy" for name, told, answer in drawn)
        probes = [books()] + [tickets(k) for k in range(most)]
        # The first begin is refused, and till one is not nothing else may be handed in.
        calls = [written(*drawn[0][:2])]
        for name, told, answer in drawn[1:]:
            calls += [written(name, told)] + probes
        self.assertLessEqual(len(calls), 3000)
        answered = run(*calls)[1:]
        step = 1 + len(probes)
        before = State([[0, 0, 0, 0]])
        for place, (name, told, answer) in enumerate(drawn[1:]):
            part = answered[place * step:(place + 1) * step]
            after = State(part[1:])
            yield name, told, part[0], before, after
            before = after

    def lines(self):
        for seed in range(1000, 1000 + LINES // 2):
            yield Draw(seed).calls(60)

    def test_the_books_balance(self):
        for drawn in self.lines():
            for name, told, answer, before, after in self.follow(drawn):
                valid = sum(paid for held in after.held for f, many, paid, gone in held if not gone)
                self.assertEqual(after.taken, after.given + after.kept + valid, (name, told))

    def test_a_ticket_for_every_leg(self):
        for drawn in self.lines():
            legs = []
            for name, told, answer, before, after in self.follow(drawn):
                if answer[0] >= 0:
                    if name == "begin":
                        legs = []
                    elif name == "buy":
                        legs.append(len(told[-1]))
                    elif name == "change":
                        legs[told[0]] = len(told[-1])
                self.assertEqual([sum(many for f, many, paid, gone in held) for held in after.held], legs)
                self.assertTrue(all(many > 0 for held in after.held for f, many, paid, gone in held))

    def test_nobody_rode_with_a_ticket_that_was_given_back(self):
        rides = 0
        for drawn in self.lines():
            ridden = collections.Counter()
            for name, told, answer, before, after in self.follow(drawn):
                if name == "begin" and answer == [0]:
                    ridden.clear()
                if name == "ride" and answer[0] >= 0:
                    ridden[told[0]] += 1
                    rides += 1
                for k, held in enumerate(after.held):
                    by_leg = [gone for f, many, paid, gone in held for leg in range(many)]
                    self.assertNotIn(1, by_leg[:ridden[k]], (name, told))
        self.assertGreater(rides, 500)

    def test_no_more_is_given_back_than_was_paid(self):
        for drawn in self.lines():
            for name, told, answer, before, after in self.follow(drawn):
                self.assertLessEqual(after.given + after.kept, after.taken)
                paid = sum(ticket[2] for held in after.held for ticket in held if ticket[3])
                self.assertLessEqual(after.given, paid)
                if name == "back" and answer[0] >= 0:
                    now_gone = [new for old, new in zip(before.held[told[0]], after.held[told[0]]) if old != new]
                    self.assertTrue(all(ticket[3] == 1 for ticket in now_gone))
                    self.assertLessEqual(answer[0], sum(ticket[2] for ticket in now_gone))
                    self.assertEqual(answer[0], after.given - before.given)

    def test_what_is_sold_stays_as_it_was_sold(self):
        for drawn in self.lines():
            for name, told, answer, before, after in self.follow(drawn):
                sold = [[ticket[:3] for ticket in held] for held in after.held]
                if name == "begin" and answer == [0]:
                    self.assertEqual(sold, [])
                    continue
                for k, held in enumerate(before.held):
                    if name != "change" or k != told[0]:
                        self.assertEqual(sold[k], [ticket[:3] for ticket in held], (name, told))
                        if name != "back" or k != told[0]:
                            self.assertEqual(after.held[k], held, (name, told))

    def test_what_answers_below_0_changes_nothing(self):
        for drawn in self.lines():
            for name, told, answer, before, after in self.follow(drawn):
                if answer[0] < 0 or name in ("fare", "close", "price", "ask", "ride", "tickets", "books"):
                    self.assertEqual((before.held, before.taken, before.given, before.kept),
                                     (after.held, after.taken, after.given, after.kept), (name, told))

    def test_money_moves_as_it_is_answered(self):
        for drawn in self.lines():
            for name, told, answer, before, after in self.follow(drawn):
                if name == "buy" and answer[0] >= 0:
                    self.assertEqual(after.taken - before.taken, answer[1])
                if name == "change" and answer[0] >= 0:
                    self.assertEqual((after.taken - before.taken, after.given), (answer[0], before.given))


if __name__ == "__main__":
    unittest.main()
