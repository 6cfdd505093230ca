"""What a poll holds, and which values it takes."""

FEWEST_CANDIDATES = 2
MOST_CANDIDATES = 8
MOST_VOTERS = 1000000
MOST_BALLOTS = 64


class Ballot:
    """How many voters gave it, and their order, the best first."""

    def __init__(self, voters, order):
        self.voters = voters
        self.order = tuple(order)


class Poll:
    """So many candidates, numbered from 0, and the ballots in the order of their numbers."""

    def __init__(self, candidates):
        self.candidates = candidates
        self.ballots = []


def can_begin(candidates):
    return FEWEST_CANDIDATES <= candidates <= MOST_CANDIDATES


def has_candidate(poll, candidate):
    return 0 <= candidate < poll.candidates


def has_both(poll, a, b):
    return has_candidate(poll, a) and has_candidate(poll, b)


def has_ballot(poll, place):
    return 0 <= place < len(poll.ballots)


def is_full(poll):
    return len(poll.ballots) >= MOST_BALLOTS


def takes_voters(voters):
    return 1 <= voters <= MOST_VOTERS


def takes_order(poll, order):
    none_twice = len(set(order)) == len(order)
    return none_twice and all([has_candidate(poll, candidate) for candidate in order])


def takes_seats(poll, seats):
    """Whether so many seats may be filled: at least one, and no more than there are candidates."""
    return 1 <= seats <= poll.candidates
