"""The desk: answers a line of calls on one new state."""

from orderpolls.pairs import count_firsts, count_preferring, count_voters, find_champion, find_least_set
from orderpolls.paths import find_strengths, find_unbeaten, rank_candidates
from orderpolls.poll import Ballot, Poll
from orderpolls.poll import can_begin, has_ballot, has_both, is_full, takes_order, takes_seats, takes_voters
from orderpolls.reader import Reader
from orderpolls.seating import describe_turns, find_seated, find_unseated, take_turns

BAD_VALUE = -1
NOT_THERE = -4
NOBODY = -5
FULL = -6
NO_POLL = -9

BEGIN = 0


class Desk:
    """The one state of a line: its poll, or None before the first."""

    def __init__(self):
        self.poll = None


def with_list(first, numbers):
    return [first, len(numbers)] + list(numbers)


def answer_begin(desk, call):
    candidates = call.wholes[0]
    if not can_begin(candidates):
        return [BAD_VALUE]
    desk.poll = Poll(candidates)
    return [candidates]


def answer_vote(desk, call):
    poll = desk.poll
    voters = call.wholes[0]
    if not takes_voters(voters) or not takes_order(poll, call.row):
        return [BAD_VALUE]
    if is_full(poll):
        return [FULL]
    poll.ballots.append(Ballot(voters, call.row))
    return [len(poll.ballots) - 1]


def answer_drop(desk, call):
    poll = desk.poll
    place = call.wholes[0]
    if not has_ballot(poll, place):
        return [NOT_THERE]
    poll.ballots.pop(place)
    return [len(poll.ballots)]


def answer_ballot(desk, call):
    place = call.wholes[0]
    if not has_ballot(desk.poll, place):
        return [NOT_THERE]
    ballot = desk.poll.ballots[place]
    return with_list(ballot.voters, ballot.order)


def answer_firsts(desk, call):
    return with_list(count_voters(desk.poll), count_firsts(desk.poll))


def answer_pair(desk, call):
    a = call.wholes[0]
    b = call.wholes[1]
    if not has_both(desk.poll, a, b):
        return [NOT_THERE]
    return [count_preferring(desk.poll, a, b)]


def answer_champion(desk, call):
    champion = find_champion(desk.poll)
    if champion is None:
        return [NOBODY]
    return [champion]


def answer_top(desk, call):
    members = find_least_set(desk.poll)
    return with_list(len(members), members)


def answer_path(desk, call):
    a = call.wholes[0]
    b = call.wholes[1]
    if not has_both(desk.poll, a, b):
        return [NOT_THERE]
    return [find_strengths(desk.poll)[a][b]]


def answer_ranked(desk, call):
    ranking = rank_candidates(desk.poll)
    return with_list(len(ranking), ranking)


def answer_unbeaten(desk, call):
    members = find_unbeaten(desk.poll)
    return with_list(len(members), members)


def answer_seats(desk, call):
    seats = call.wholes[0]
    if not takes_seats(desk.poll, seats):
        return [BAD_VALUE]
    return with_list(seats, find_seated(take_turns(desk.poll, seats)))


def answer_turns(desk, call):
    seats = call.wholes[0]
    if not takes_seats(desk.poll, seats):
        return [BAD_VALUE]
    turns = take_turns(desk.poll, seats)
    return with_list(len(turns), describe_turns(turns))


def answer_runoff(desk, call):
    unseated = find_unseated(take_turns(desk.poll, 1))
    return with_list(len(unseated), unseated)


def answer_count(desk, call):
    poll = desk.poll
    return with_list(poll.candidates, [len(poll.ballots), count_voters(poll)])


ANSWERS = {
    0: answer_begin,
    1: answer_vote,
    2: answer_drop,
    3: answer_ballot,
    4: answer_firsts,
    5: answer_pair,
    6: answer_champion,
    7: answer_top,
    8: answer_path,
    9: answer_ranked,
    10: answer_unbeaten,
    11: answer_seats,
    12: answer_turns,
    13: answer_runoff,
    14: answer_count,
}


def answer_call(desk, call):
    if desk.poll is None and call.number != BEGIN:
        return [NO_POLL]
    return ANSWERS[call.number](desk, call)


def answers(calls):
    """For each call, in order: how many numbers are answered, then these."""
    desk = Desk()
    reader = Reader(calls)
    told = []
    while reader.has_more():
        answer = answer_call(desk, reader.take_call())
        told.append(len(answer))
        told.extend(answer)
    return told
