"""Legs, fares and cards: what is a journey, what a fare covers, which tickets cost the least."""

LAST_STOP = 254
ANY_STOP = 255
MOST_LEGS = 16
DAY = 1440
MINUTES_END = 16777216
LONGEST_WAIT = 60
NO_LEGS_LEFT = (0, 0, 0, 0)


class Leg:
    def __init__(self, source, to, dep, arr):
        self.source = source
        self.to = to
        self.dep = dep
        self.arr = arr


class Fare:
    """A fare of the eight whole numbers that the call tells, in its order."""

    def __init__(self, told):
        self.source = told[0]
        self.to = told[1]
        self.via = told[2]
        self.price = told[3]
        self.first = told[4]
        self.last = told[5]
        self.length = told[6]
        self.breaks = told[7]
        self.closed = False


class Card:
    def __init__(self, off, least):
        self.off = off
        self.least = least


class Ticket:
    """A ticket of the fare with this number, for so many legs of a journey from the one at start on."""

    def __init__(self, fare, start, leg_count, paid):
        self.fare = fare
        self.start = start
        self.leg_count = leg_count
        self.paid = paid
        self.given_back = False


class Stretch:
    """Legs of a journey, one behind another, as far as it matters to a fare."""

    def __init__(self, leg):
        self.source = leg.source
        self.to = leg.to
        self.dep = leg.dep
        self.arr = leg.arr
        self.earliest = leg.dep % DAY
        self.latest = leg.dep % DAY
        self.breaks = 0
        self.passed = []

    def grow(self, leg):
        if leg.dep - self.arr > LONGEST_WAIT:
            self.breaks += 1
        self.passed.append(self.to)
        self.to = leg.to
        self.arr = leg.arr
        self.earliest = min(self.earliest, leg.dep % DAY)
        self.latest = max(self.latest, leg.dep % DAY)


def legs_of(row):
    return [Leg(row[k], row[k + 1], row[k + 2], row[k + 3]) for k in range(0, len(row), 4)]


def is_leg(leg):
    return leg.source <= LAST_STOP and leg.to <= LAST_STOP and leg.dep <= leg.arr and leg.arr < MINUTES_END


def is_journey(legs):
    if len(legs) < 1 or len(legs) > MOST_LEGS:
        return False
    for k, leg in enumerate(legs):
        if not is_leg(leg):
            return False
        if k > 0 and (leg.source != legs[k - 1].to or leg.dep < legs[k - 1].arr):
            return False
    return True


def covers(fare, stretch):
    """Whether a fare covers the stretch; that it isn't closed is seen to by offers_of."""
    return (
        fare.source == stretch.source
        and fare.to == stretch.to
        and fare.first <= stretch.earliest
        and stretch.latest <= fare.last
        and stretch.arr - stretch.dep <= fare.length
        and stretch.breaks <= fare.breaks
        and (fare.via == ANY_STOP or fare.via in stretch.passed)
    )


def ticket_cost(price, card):
    reduced = price * (100 - card.off) // 100
    return min(price, max(reduced, card.least))


def offers_of(fares, card):
    """What a ticket costs and its fare's number, for each fare that isn't closed, the best one first."""
    return sorted([(ticket_cost(fare.price, card), k) for k, fare in enumerate(fares) if not fare.closed])


def best_offer(fares, offers, stretch):
    # For the same legs nothing but cost and number tells tickets apart, so the first that covers is the best.
    for offer in offers:
        if covers(fares[offer[1]], stretch):
            return offer
    return None


def best_plan(fares, offers, legs, start, plans):
    """The plan for the legs from start on, if plans holds those for every later start.

    A plan is what its tickets cost, how many they are, and of the first of them the legs it is for,
    below 0, and its fare: so the least of two plans is the cheaper one as the document orders them.
    No two plans of one start are the same in all four, so later tickets never need to be compared here.
    """
    found = []
    stretch = Stretch(legs[start])
    for end in range(start, len(legs)):
        if end > start:
            stretch.grow(legs[end])
        rest = plans[end + 1]
        if rest is not None:
            offer = best_offer(fares, offers, stretch)
            if offer is not None:
                found.append((offer[0] + rest[0], 1 + rest[1], start - end - 1, offer[1]))
    return min(found, default=None)


def tickets_of(plans):
    """The tickets of the plan for the first leg on."""
    tickets = []
    start = 0
    while start < len(plans) - 1:
        plan = plans[start]
        leg_count = -plan[2]
        rest = plans[start + leg_count]
        tickets.append(Ticket(plan[3], start, leg_count, plan[0] - rest[0]))
        start += leg_count
    return tickets


def cheapest(fares, card, legs):
    """The cheapest tickets for a journey, or None if no tickets are good for it."""
    offers = offers_of(fares, card)
    plans = [None for leg in legs]
    plans.append(NO_LEGS_LEFT)
    for start in range(len(legs) - 1, -1, -1):
        plans[start] = best_plan(fares, offers, legs, start, plans)
    if plans[0] is None:
        return None
    return tickets_of(plans)


def total_paid(tickets):
    return sum([ticket.paid for ticket in tickets])
