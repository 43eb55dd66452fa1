"""The object that the calls are on: its fares, what it sold, and its money."""

from leastfare.journeys import ANY_STOP, DAY, LAST_STOP, MINUTES_END
from leastfare.journeys import Card, Fare, cheapest, is_journey, total_paid
from leastfare.sales import Sale

MOST_MONEY = 1000000
MOST_FARES = 64
MOST_SALES = 64
MOST_BREAKS = 16
MOST_OFF = 100

GIVEN_BACK = -1
MISSING = -2
NOW_WRONG = -4
ALL_RIDDEN = -11
GONE = -16
TOUCHED = -17
WRONG = -22
FULL = -28
NO_TICKETS = -33


def is_fare(fare):
    return (
        fare.source <= LAST_STOP
        and fare.to <= LAST_STOP
        and fare.via <= ANY_STOP
        and fare.price <= MOST_MONEY
        and fare.first <= fare.last
        and fare.last < DAY
        and fare.length <= MINUTES_END
        and fare.breaks <= MOST_BREAKS
    )


def is_card(card):
    return card.off <= MOST_OFF and card.least <= MOST_MONEY


class Office:
    """Each method of a call answers a list: the number, then what else is answered."""

    def __init__(self):
        self.reset(0)

    def reset(self, fee):
        self.fee = fee
        self.fares = []
        self.sales = []
        self.now = 0
        self.taken = 0
        self.given = 0
        self.kept = 0

    def begin(self, fee):
        if fee > MOST_MONEY:
            return [WRONG]
        self.reset(fee)
        return [0]

    def add_fare(self, told):
        fare = Fare(told)
        if not is_fare(fare):
            return [WRONG]
        if len(self.fares) >= MOST_FARES:
            return [FULL]
        self.fares.append(fare)
        return [len(self.fares) - 1]

    def has_fare(self, f):
        return f < len(self.fares) and not self.fares[f].closed

    def close_fare(self, f):
        if not self.has_fare(f):
            return [MISSING]
        fare = self.fares[f]
        fare.closed = True
        return [0]

    def set_price(self, f, price):
        if not self.has_fare(f):
            return [MISSING]
        if price > MOST_MONEY:
            return [WRONG]
        fare = self.fares[f]
        fare.price = price
        return [0]

    def ask(self, off, least, legs):
        card = Card(off, least)
        if not is_card(card) or not is_journey(legs):
            return [WRONG]
        tickets = cheapest(self.fares, card, legs)
        if tickets is None:
            return [NO_TICKETS]
        answer = [total_paid(tickets)]
        for ticket in tickets:
            answer.extend([ticket.fare, ticket.leg_count])
        return answer

    def is_time(self, now):
        return self.now <= now and now < MINUTES_END

    def buy(self, off, least, now, legs):
        if not self.is_time(now):
            return [NOW_WRONG]
        card = Card(off, least)
        if not is_card(card) or not is_journey(legs):
            return [WRONG]
        if legs[0].dep < now:
            return [GONE]
        tickets = cheapest(self.fares, card, legs)
        if tickets is None:
            return [NO_TICKETS]
        if len(self.sales) >= MOST_SALES:
            return [FULL]
        self.now = now
        self.sales.append(Sale(legs, card, tickets))
        cost = total_paid(tickets)
        self.taken += cost
        return [len(self.sales) - 1, cost]

    def has_sale(self, k):
        return k < len(self.sales)

    def list_tickets(self, k):
        if not self.has_sale(k):
            return [MISSING]
        sale = self.sales[k]
        answer = [len(sale.tickets)]
        for ticket in sale.tickets:
            answer.extend([ticket.fare, ticket.leg_count, ticket.paid, 1 if ticket.given_back else 0])
        return answer

    def ride(self, k, now):
        if not self.is_time(now):
            return [NOW_WRONG]
        if not self.has_sale(k):
            return [MISSING]
        sale = self.sales[k]
        if sale.legs_left() == 0:
            return [ALL_RIDDEN]
        if sale.next_leg().dep < now:
            return [GONE]
        if sale.next_ticket().given_back:
            return [GIVEN_BACK]
        self.now = now
        sale.ridden += 1
        return [sale.legs_left()]

    def give_back(self, k, now):
        if not self.is_time(now):
            return [NOW_WRONG]
        if not self.has_sale(k):
            return [MISSING]
        self.now = now
        sale = self.sales[k]
        together = 0
        for ticket in sale.tickets_to_give_back(now):
            ticket.given_back = True
            amount = max(0, ticket.paid - self.fee)
            together += amount
            self.kept += ticket.paid - amount
        self.given += together
        return [together]

    def change(self, k, now, legs):
        if not self.is_time(now):
            return [NOW_WRONG]
        if not self.has_sale(k):
            return [MISSING]
        sale = self.sales[k]
        if sale.is_touched():
            return [TOUCHED]
        if not is_journey(legs):
            return [WRONG]
        if legs[0].dep < now:
            return [GONE]
        tickets = cheapest(self.fares, sale.card, legs)
        if tickets is None:
            return [NO_TICKETS]
        self.now = now
        more = total_paid(tickets) - total_paid(sale.tickets)
        due = self.fee + max(0, more)
        self.taken += due
        self.kept += self.fee + max(0, -more)
        sale.exchange(legs, tickets)
        return [due]

    def books(self):
        return [0, self.taken, self.given, self.kept]
