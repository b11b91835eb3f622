"""A party, and what is right of its numbers."""

MOST_SEATS = 200
MOST_WANTED = 30
MOST_CARE = 5
MOST_WORTH = 50


# A party is never changed once it is made: states share it, so a change puts another one in its place.
class Party:
    def __init__(self, seats, wants, cares, worth):
        self.seats = seats
        self.wants = wants
        self.cares = cares
        self.worth = worth


def right_seats(seats):
    return 1 <= seats <= MOST_SEATS


def right_wants(wants):
    return max(wants) <= MOST_WANTED


def right_cares(cares):
    return 1 <= min(cares) and max(cares) <= MOST_CARE


def right_worth(worth, offices):
    return len(worth) == offices and max(worth) <= MOST_WORTH
