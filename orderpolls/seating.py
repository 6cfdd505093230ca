"""Who gets the seats, turn by turn, by a quota and by votes that go on to the next in the order."""

from orderpolls.pairs import count_voters


class Turn:
    """Whom it was about, whether they got a seat, and what they had: so many parts, of which a vote has so many."""

    def __init__(self, candidate, seated, had, parts):
        self.candidate = candidate
        self.seated = seated
        self.had = had
        self.parts = parts


class Seating:
    """Who is in still, how many seats are left, and what the quota and each ballot are worth."""

    def __init__(self, poll, seats):
        self.ballots = poll.ballots
        self.inside = list(range(poll.candidates))
        self.seats_left = seats
        # All worth is counted in parts of a vote, all of one size, so that it stays in whole numbers.
        self.parts = seats + 1
        self.quota = count_voters(poll)
        self.worths = [ballot.voters * self.parts for ballot in poll.ballots]


def find_holder(order, inside):
    """With whom a ballot of this order lies, or None."""
    for candidate in order:
        if candidate in inside:
            return candidate
    return None


def count_held(seating):
    """What each candidate has who is in still."""
    held = {}
    for candidate in seating.inside:
        held[candidate] = 0
    for ballot, worth in zip(seating.ballots, seating.worths):
        holder = find_holder(ballot.order, seating.inside)
        if holder is not None:
            held[holder] += worth
    return held


def find_most(held):
    """Who has the most, of several the lowest number."""
    return min(list(held), key=lambda candidate: (-held[candidate], candidate))


def find_least(held):
    """Who has the least, of several the highest number."""
    return min(list(held), key=lambda candidate: (held[candidate], -candidate))


def take_quota(seating, candidate, had):
    """Takes a quota from the ballots that lie with the candidate, from each as large a share of its worth."""
    # Each part is cut into as many as the candidate had, so that dividing by what they had leaves no rest.
    fresh = []
    for ballot, worth in zip(seating.ballots, seating.worths):
        lies_there = find_holder(ballot.order, seating.inside) == candidate
        fresh.append(worth * (had - seating.quota if lies_there else had))
    seating.worths = fresh
    seating.quota *= had
    seating.parts *= had


def take_turn(seating):
    """Takes the next turn, and gives it back."""
    held = count_held(seating)
    most = find_most(held)
    by_quota = held[most] > seating.quota
    seated = by_quota or len(seating.inside) <= seating.seats_left
    candidate = most if seated else find_least(held)
    turn = Turn(candidate, seated, held[candidate], seating.parts)
    if by_quota:
        take_quota(seating, candidate, held[candidate])
    if seated:
        seating.seats_left -= 1
    seating.inside.remove(candidate)
    return turn


def take_turns(poll, seats):
    """The turns till so many have a seat."""
    seating = Seating(poll, seats)
    turns = []
    while seating.seats_left > 0:
        turns.append(take_turn(seating))
    return turns


def find_seated(turns):
    return [turn.candidate for turn in turns if turn.seated]


def find_unseated(turns):
    return [turn.candidate for turn in turns if not turn.seated]


def bring_to_lowest_terms(number, divisor):
    """The same fraction as two numbers, with no number above 1 dividing both."""
    common = divisor
    rest = number % divisor
    while rest > 0:
        smaller = common % rest
        common = rest
        rest = smaller
    return [number // common, divisor // common]


def describe_turns(turns):
    """Of each turn four numbers: the candidate, 1 a seat or 0 out, and what they had as a fraction."""
    numbers = []
    for turn in turns:
        numbers.append(turn.candidate)
        numbers.append(1 if turn.seated else 0)
        numbers.extend(bring_to_lowest_terms(turn.had, turn.parts))
    return numbers
