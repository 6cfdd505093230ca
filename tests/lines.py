"""Builds lines of calls, takes the answers apart again, draws polls, and reckons plainly who beats whom in them."""

import random
from itertools import combinations, permutations, product

from orderpolls.desk import answers

MOST = 9223372036854775807


def begin(n):
    return [0, n]


def vote(m, *order):
    return [1, m, len(order), *order]


def drop(i):
    return [2, i]


def ballot(i):
    return [3, i]


def firsts():
    return [4]


def pair(a, b):
    return [5, a, b]


def champion():
    return [6]


def top():
    return [7]


def path(a, b):
    return [8, a, b]


def ranked():
    return [9]


def unbeaten():
    return [10]


def seats(s):
    return [11, s]


def turns(s):
    return [12, s]


def runoff():
    return [13]


def count():
    return [14]


def join(calls):
    return [number for call in calls for number in call]


def split(told):
    """The answers one by one, each without how many numbers it has."""
    found = []
    place = 0
    while place < len(told):
        length = told[place]
        answer = told[place + 1:place + 1 + length]
        if length < 1 or len(answer) != length:
            raise AssertionError(f"answers that do not come apart: {told}")
        found.append(answer)
        place += 1 + length
    return found


def ask(*calls):
    """The answer of each call of a line."""
    return split(answers(join(calls)))


def ask_last(*calls):
    return ask(*calls)[-1]


def everything(n, ballots):
    """Calls that tell all there is to tell of a poll with n candidates and so many ballots."""
    calls = [ballot(i) for i in range(ballots + 1)]
    calls += [firsts(), champion(), top()]
    calls += [pair(a, b) for a in range(n) for b in range(n)]
    calls += [path(a, b) for a in range(n) for b in range(n)]
    calls += [ranked(), unbeaten(), runoff(), count()]
    calls += [call(s) for s in range(1, n + 1) for call in (seats, turns)]
    return calls


def prefer(ballots, a, b):
    """How many prefer a to b, told by walking each order from its best on."""
    found = 0
    for m, order in ballots:
        for candidate in order:
            if candidate == b:
                break
            if candidate == a:
                found += m
    return found


def beat(ballots, a, b):
    return prefer(ballots, a, b) > prefer(ballots, b, a)


def least_set(n, ballots):
    """The least set, told by trying all sets, those with the fewest first."""
    for length in range(1, n + 1):
        for members in combinations(range(n), length):
            others = [b for b in range(n) if b not in members]
            if all(beat(ballots, a, b) for a in members for b in others):
                return list(members)
    raise AssertionError("the set of all is such a set")


def poll(n, ballots):
    return [begin(n)] + [vote(m, *order) for m, order in ballots]


def orders(n):
    return [order for length in range(n + 1) for order in permutations(range(n), length)]


def some_polls():
    """Polls of every size with orders of every length, the same ones each time."""
    chance = random.Random(20261116)
    for turn in range(350):
        n = 2 + turn % 7
        ballots = []
        for place in range(chance.randrange(1, 12)):
            order = chance.sample(range(n), chance.randrange(n + 1))
            ballots.append((chance.randrange(1, 6), order))
        yield n, ballots


def small_polls():
    for given in product(orders(3), repeat=3):
        yield 3, list(zip((2, 1, 2), given))


CYCLE = [(4, (0, 1, 2)), (3, (1, 2, 0)), (2, (2, 0, 1))]
