"""A journey that was sold: its tickets, how far it was ridden, what may still be given back."""


class Sale:
    """The tickets are kept as they were sold, whatever fares do; legs are ridden from the first on."""

    def __init__(self, legs, card, tickets):
        self.legs = legs
        self.card = card
        self.tickets = tickets
        self.ridden = 0

    def legs_left(self):
        return len(self.legs) - self.ridden

    def next_leg(self):
        return self.legs[self.ridden]

    def next_ticket(self):
        # Every leg has its ticket, so the next leg's is the last one that begins no later than that leg.
        begun = [ticket for ticket in self.tickets if ticket.start <= self.ridden]
        return begun[-1]

    def is_touched(self):
        return self.ridden > 0 or any([ticket.given_back for ticket in self.tickets])

    def may_give_back(self, ticket, now):
        return not ticket.given_back and self.ridden <= ticket.start and now < self.legs[ticket.start].dep

    def tickets_to_give_back(self, now):
        return [ticket for ticket in self.tickets if self.may_give_back(ticket, now)]

    def exchange(self, legs, tickets):
        self.legs = legs
        self.tickets = tickets
