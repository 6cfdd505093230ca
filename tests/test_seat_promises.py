"""seats, turns and runoff on many drawn polls: held against a plain reckoning in fractions, and what P3 to P5 say."""

import random
import unittest
from fractions import Fraction
from itertools import combinations
from math import gcd

from tests.lines import ask, poll, runoff, seats, small_polls, some_polls, turns


def full_polls():
    """Polls of every size whose orders have all candidates, some of them with very many voters."""
    chance = random.Random(8642)
    for turn in range(140):
        n = 2 + turn % 7
        most = chance.choice((3, 20, 1000000))
        length = chance.randrange(1, 16)
        yield n, [(chance.randrange(1, most + 1), chance.sample(range(n), n)) for place in range(length)]


def party_polls():
    """Polls in which voters hold together: each ballot has all of one of two parties before all others."""
    chance = random.Random(97531)
    for turn in range(140):
        n = 3 + turn % 6
        party = chance.sample(range(n), chance.randrange(1, n))
        others = [candidate for candidate in range(n) if candidate not in party]
        ballots = []
        for place in range(chance.randrange(2, 10)):
            own, other = (party, others) if chance.randrange(3) else (others, party)
            rest = chance.sample(other, chance.randrange(len(other) + 1))
            ballots.append((chance.randrange(1, 9), chance.sample(own, len(own)) + rest))
        yield n, ballots


def all_polls():
    for polls in (some_polls(), full_polls(), party_polls()):
        yield from polls


def voters_of(ballots):
    return sum(m for m, order in ballots)


def quota_of(ballots, s):
    return Fraction(voters_of(ballots), s + 1)


def piles_of(n, papers, gone):
    """Which papers lie with each candidate who's in."""
    piles = {candidate: [] for candidate in range(n) if candidate not in gone}
    for paper in papers:
        left = [candidate for candidate in paper["order"] if candidate not in gone]
        if left:
            piles[left[0]].append(paper)
    return piles


def reckon(n, ballots, s):
    """Each turn as (candidate, 1 or 0, what they had), told in Python's own fractions."""
    quota = quota_of(ballots, s)
    papers = [{"order": order, "worth": Fraction(m)} for m, order in ballots]
    told = []
    while sum(seated for candidate, seated, had in told) < s:
        piles = piles_of(n, papers, [candidate for candidate, seated, had in told])
        held = {candidate: sum((paper["worth"] for paper in pile), Fraction(0)) for candidate, pile in piles.items()}
        most = min(candidate for candidate in held if held[candidate] == max(held.values()))
        least = max(candidate for candidate in held if held[candidate] == min(held.values()))
        left = s - sum(seated for candidate, seated, had in told)
        if held[most] > quota:
            for paper in piles[most]:
                paper["worth"] = paper["worth"] * (held[most] - quota) / held[most]
            told.append((most, 1, held[most]))
        elif len(held) <= left:
            told.append((most, 1, held[most]))
        else:
            told.append((least, 0, held[least]))
    return told


def ask_seats(n, ballots):
    """The runoff, and for each s what seats and turns answer."""
    calls = [call(s) for s in range(1, n + 1) for call in (seats, turns)]
    told = ask(*poll(n, ballots), runoff(), *calls)[1 + len(ballots):]
    return told[0], dict(zip(range(1, n + 1), zip(told[1::2], told[2::2])))


def read_turns(told):
    return [tuple(told[place:place + 4]) for place in range(2, len(told), 4)]


class ReckoningTest(unittest.TestCase):
    def check(self, n, ballots):
        out, told = ask_seats(n, ballots)
        for s in range(1, n + 1):
            expected = reckon(n, ballots, s)
            numbers = []
            for candidate, seated, had in expected:
                numbers += [candidate, seated, had.numerator, had.denominator]
            self.assertEqual(told[s][1], [len(expected), len(numbers)] + numbers)
            self.assertEqual(told[s][0], [s, s] + [candidate for candidate, seated, had in expected if seated])
        unseated = [candidate for candidate, seated, had in reckon(n, ballots, 1) if not seated]
        self.assertEqual(out, [len(unseated), len(unseated)] + unseated)

    def test_all_polls_of_three_ballots_on_three_candidates(self):
        for n, ballots in small_polls():
            self.check(n, ballots)

    def test_many_polls_of_every_size(self):
        for n, ballots in all_polls():
            self.check(n, ballots)

    def test_without_ballots(self):
        for n in range(2, 9):
            self.check(n, [])


class FilledSeatsTest(unittest.TestCase):
    """P3, and the form in which it is told."""

    def test_so_many_seats_are_filled_by_so_many_candidates(self):
        for n, ballots in all_polls():
            for s, (seated, steps) in ask_seats(n, ballots)[1].items():
                self.assertEqual(seated[:2], [s, s])
                self.assertEqual(len(seated), 2 + s)
                self.assertEqual(len(set(seated[2:])), s)
                self.assertLessEqual(set(seated[2:]), set(range(n)))
                self.check_steps(n, seated, steps)

    def check_steps(self, n, seated, steps):
        found = read_turns(steps)
        self.assertEqual(steps[:2], [len(found), 4 * len(found)])
        self.assertEqual([step[0] for step in found if step[1] == 1], seated[2:])
        self.assertEqual(len({step[0] for step in found}), len(found))
        self.assertEqual({type(number) for number in steps}, {int})
        for candidate, got, number, divisor in found:
            self.assertIn(candidate, range(n))
            self.assertIn(got, (0, 1))
            self.assertGreaterEqual(number, 0)
            self.assertGreater(divisor, 0)
            self.assertEqual(gcd(number, divisor), 1)


class HoldingTogetherTest(unittest.TestCase):
    """P4."""

    def check(self, n, ballots, members, answers):
        """Checks one set for each s, and tells how many seats were due to it at most."""
        holding = voters_of([given for given in ballots if set(given[1][:len(members)]) == set(members)])
        most = 0
        for s, (seated, steps) in answers.items():
            due = [k for k in range(len(members) + 1) if holding > k * quota_of(ballots, s)]
            if due:
                most = max(most, due[-1])
                self.assertGreaterEqual(len(set(seated[2:]) & set(members)), due[-1])
        return most

    def test_voters_who_hold_together_get_as_many_seats_as_they_have_quotas(self):
        found = {}
        for n, ballots in all_polls():
            answers = ask_seats(n, ballots)[1]
            for length in range(1, n):
                for members in combinations(range(n), length):
                    most = self.check(n, ballots, members, answers)
                    found[most] = found.get(most, 0) + 1
        # Enough sets to which something is due, for this to say something.
        for most in range(1, 7):
            self.assertGreater(found.get(most, 0), 5)


class QuotaTest(unittest.TestCase):
    """P5."""

    def test_a_seat_takes_just_a_quota(self):
        # All orders have all candidates, so with a seat for each the last one has all that no quota was taken from.
        for n, ballots in full_polls():
            steps = read_turns(ask_seats(n, ballots)[1][n][1])
            quota = quota_of(ballots, n)
            had = [Fraction(number, divisor) for candidate, seated, number, divisor in steps]
            taken = [quota for worth in had[:-1] if worth > quota]
            self.assertEqual(had[-1], voters_of(ballots) - sum(taken))

    def test_each_seat_of_one_order_takes_a_quota_from_what_is_left(self):
        for n in range(2, 9):
            for m in (1, 7, 5040, 1000000):
                for s in range(1, n + 1):
                    steps = read_turns(ask_seats(n, [(m, range(n))])[1][s][1])
                    expected = [Fraction(m * (s + 1 - place), s + 1) for place in range(s)]
                    self.assertEqual([Fraction(step[2], step[3]) for step in steps], expected)


if __name__ == "__main__":
    unittest.main()
