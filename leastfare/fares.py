"""The calls, as whole numbers one behind another, and what they answer."""

from leastfare.journeys import legs_of
from leastfare.office import Office

BEGIN = 0
FARE = 1
CLOSE = 2
PRICE = 3
ASK = 4
BUY = 5
TICKETS = 6
RIDE = 7
BACK = 8
CHANGE = 9
BOOKS = 10


class Reader:
    """Goes through a list of numbers from its beginning, and leaves it as it is."""

    def __init__(self, numbers):
        self.numbers = numbers
        self.place = 0

    def at_end(self):
        return self.place >= len(self.numbers)

    def take(self):
        number = self.numbers[self.place]
        self.place += 1
        return number

    def take_many(self, many):
        return [self.take() for k in range(many)]

    def take_row(self):
        many = self.take()
        return self.take_many(many)


def answer_price(office, reader):
    told = reader.take_many(2)
    return office.set_price(told[0], told[1])


def answer_ask(office, reader):
    told = reader.take_many(2)
    legs = legs_of(reader.take_row())
    return office.ask(told[0], told[1], legs)


def answer_buy(office, reader):
    told = reader.take_many(3)
    legs = legs_of(reader.take_row())
    return office.buy(told[0], told[1], told[2], legs)


def answer_ride(office, reader):
    told = reader.take_many(2)
    return office.ride(told[0], told[1])


def answer_back(office, reader):
    told = reader.take_many(2)
    return office.give_back(told[0], told[1])


def answer_change(office, reader):
    told = reader.take_many(2)
    legs = legs_of(reader.take_row())
    return office.change(told[0], told[1], legs)


def answer_call(office, reader):
    call = reader.take()
    if call == BEGIN:
        return office.begin(reader.take())
    if call == FARE:
        return office.add_fare(reader.take_many(8))
    if call == CLOSE:
        return office.close_fare(reader.take())
    if call == PRICE:
        return answer_price(office, reader)
    if call == ASK:
        return answer_ask(office, reader)
    if call == BUY:
        return answer_buy(office, reader)
    if call == TICKETS:
        return office.list_tickets(reader.take())
    if call == RIDE:
        return answer_ride(office, reader)
    if call == BACK:
        return answer_back(office, reader)
    if call == CHANGE:
        return answer_change(office, reader)
    if call == BOOKS:
        return office.books()
    raise ValueError("there is no call with this number")


def answers(calls):
    """For each call, in order: how many numbers are answered, then these."""
    office = Office()
    reader = Reader(calls)
    answered = []
    while not reader.at_end():
        answer = answer_call(office, reader)
        answered.append(len(answer))
        answered.extend(answer)
    return answered
