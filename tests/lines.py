"""Builds lines of calls, and takes the answers apart again."""

from orderpolls.desk import answers

MOST = 9223372036854775807


def begin(n):
    return [0, n]


def vote(m, *order):
    return [1, m, len(order), *order]


def drop(i):
    return [2, i]


def ballot(i):
    return [3, i]


def firsts():
    return [4]


def pair(a, b):
    return [5, a, b]


def champion():
    return [6]


def top():
    return [7]


def path(a, b):
    return [8, a, b]


def ranked():
    return [9]


def unbeaten():
    return [10]


def seats(s):
    return [11, s]


def turns(s):
    return [12, s]


def runoff():
    return [13]


def count():
    return [14]


def join(calls):
    return [number for call in calls for number in call]


def split(told):
    """The answers one by one, each without how many numbers it has."""
    found = []
    place = 0
    while place < len(told):
        length = told[place]
        answer = told[place + 1:place + 1 + length]
        if length < 1 or len(answer) != length:
            raise AssertionError(f"answers that do not come apart: {told}")
        found.append(answer)
        place += 1 + length
    return found


def ask(*calls):
    """The answer of each call of a line."""
    return split(answers(join(calls)))


def ask_last(*calls):
    return ask(*calls)[-1]


def everything(n, ballots):
    """Calls that tell all there is to tell of a poll with n candidates and so many ballots."""
    calls = [ballot(i) for i in range(ballots + 1)]
    calls += [firsts(), champion(), top()]
    calls += [pair(a, b) for a in range(n) for b in range(n)]
    return calls
