"""path, ranked and unbeaten, and what P1 and P2 say of them."""

import unittest

from tests.lines import CYCLE, MOST, ask, ask_last, beat, begin, champion, drop, everything, least_set, pair, path, poll
from tests.lines import prefer, ranked, small_polls, some_polls, top, unbeaten, vote

# 45 voters, five candidates: 4 is beaten by 2, and is above all others nevertheless.
WELL_KNOWN = [
    (5, (0, 2, 1, 4, 3)), (5, (0, 3, 4, 2, 1)), (8, (1, 4, 3, 0, 2)), (3, (2, 0, 1, 4, 3)), (7, (2, 0, 4, 1, 3)),
    (2, (2, 1, 0, 3, 4)), (7, (3, 2, 4, 1, 0)), (8, (4, 1, 0, 3, 2)),
]


def arrow(n, a, b, m):
    """Two ballots that all prefer a to b; of every other pair m voters prefer the one, m the other."""
    others = [candidate for candidate in range(n) if candidate not in (a, b)]
    return [(m, (a, b, *others)), (m, (*reversed(others), a, b))]


def arrows(n, steps):
    return [given for a, b, m in steps for given in arrow(n, a, b, m)]


def all_paths(n, ballots):
    """The strength of the strongest path from each to each, told by walking every path that meets nobody twice."""
    best = {(a, b): 0 for a in range(n) for b in range(n)}
    steps = {a: {b: prefer(ballots, a, b) for b in range(n) if beat(ballots, a, b)} for a in range(n)}

    def walk(start, visited, weakest):
        for b, strength in steps[visited[-1]].items():
            reached = strength if weakest is None else min(weakest, strength)
            best[start, b] = max(best[start, b], reached)
            if b not in visited:
                walk(start, visited + [b], reached)

    for a in range(n):
        walk(a, [a], None)
    return best


def are_above(n, ballots):
    """Whom each is above."""
    best = all_paths(n, ballots)
    return {a: [b for b in range(n) if best[a, b] > best[b, a]] for a in range(n)}


def ask_paths(n, ballots):
    told = ask(*poll(n, ballots), *[path(a, b) for a in range(n) for b in range(n)])
    return told[1 + len(ballots):]


class PathTest(unittest.TestCase):
    def test_one_step_is_as_strong_as_voters_prefer_the_one(self):
        told = ask(begin(2), vote(3, 0, 1), vote(1, 1), vote(9), path(0, 1), path(1, 0), pair(1, 0))
        self.assertEqual(told[4:], [[3], [0], [1]])

    def test_as_many_on_both_sides_are_no_step(self):
        self.assertEqual(ask(begin(2), vote(3, 0), vote(3, 1), path(0, 1), path(1, 0))[3:], [[0], [0]])

    def test_one_voter_more_is_a_step(self):
        polls = [begin(2), vote(1000000, 0), vote(1000000, 1), vote(1, 1)]
        self.assertEqual(ask(*polls, path(1, 0), path(0, 1))[4:], [[1000001], [0]])

    def test_several_steps_are_as_strong_as_the_weakest(self):
        # 0 beats 1 with 6, 1 beats 2 with 7, 2 beats 0 with 5.
        self.assertEqual(ask_paths(3, CYCLE), [[5], [6], [6], [5], [5], [7], [5], [5], [5]])

    def test_a_path_of_several_steps_may_be_stronger_than_one_step(self):
        told = ask_paths(5, WELL_KNOWN)
        expected = [
            25, 28, 28, 30, 24, 25, 28, 28, 33, 24, 25, 29, 28, 29, 24, 25, 28, 28, 28, 24, 25, 28, 28, 31, 24,
        ]
        self.assertEqual(told, [[strength] for strength in expected])
        self.assertEqual(ask_last(*poll(5, WELL_KNOWN), pair(0, 2)), [26])

    def test_seven_steps_wherever_the_weakest_is(self):
        for weakest in range(7):
            steps = [(a, a + 1, 1 if a == weakest else 5) for a in range(7)]
            told = ask(*poll(8, arrows(8, steps)), path(0, 7), path(7, 0), path(weakest + 1, weakest))
            self.assertEqual(told[15:], [[31 + 1], [0], [0]])

    def test_seven_steps_against_the_numbers(self):
        steps = [(a + 1, a, 8 - a) for a in range(7)]
        told = ask(*poll(8, arrows(8, steps)), path(7, 0), path(6, 0), path(0, 7))
        self.assertEqual(told[15:], [[35 + 2], [35 + 3], [0]])

    def test_from_one_to_the_same_without_a_circle(self):
        chain = arrows(4, [(0, 1, 2), (1, 2, 3), (2, 3, 4), (0, 3, 1)])
        told = ask(*poll(4, chain), *[path(a, a) for a in range(4)])
        self.assertEqual(told[9:], [[0]] * 4)

    def test_from_one_to_the_same_with_a_circle(self):
        # 0 stands ahead of the circle, 4 behind it.
        steps = [(0, 1, 9), (1, 2, 3), (2, 3, 4), (3, 1, 2), (3, 4, 7)]
        told = ask(*poll(5, arrows(5, steps)), *[path(a, a) for a in range(5)])
        self.assertEqual(told[11:], [[0], [27], [27], [27], [0]])

    def test_of_two_circles_the_stronger_one(self):
        steps = [(0, 1, 3), (1, 2, 3), (2, 0, 3), (0, 3, 5), (3, 4, 4), (4, 0, 6)]
        told = ask(*poll(5, arrows(5, steps)), path(0, 0), path(1, 1), path(3, 3))
        self.assertEqual(told[13:], [[24 + 4], [24 + 3], [24 + 4]])

    def test_none_without_ballots_or_with_empty_orders(self):
        for ballots in ([], [(7, ()), (1000000, ())]):
            self.assertEqual(ask_paths(3, ballots), [[0]] * 9)

    def test_who_is_in_no_order_is_reached_and_goes_nowhere(self):
        told = ask(begin(4), vote(5, 1, 0), vote(2, 2), path(1, 3), path(2, 3), path(3, 1), path(3, 3))
        self.assertEqual(told[3:], [[5], [2], [0], [0]])

    def test_refuses_a_candidate_that_is_not_there(self):
        for n in (2, 3, 8):
            for a, b in ((n, 0), (0, n), (n, n), (MOST, 0), (0, MOST), (MOST, MOST), (n, MOST)):
                told = ask(begin(n), vote(1, 0), path(a, b), path(0, n - 1))
                self.assertEqual(told[2:], [[-4], [1]])

    def test_goes_with_the_ballots(self):
        told = ask(*poll(3, CYCLE), path(2, 1), drop(2), path(2, 1), path(0, 2))
        self.assertEqual(told[4:], [[5], [2], [0], [4]])

    def test_as_strong_as_the_strongest_of_all_paths(self):
        for polls in (some_polls(), small_polls()):
            for n, ballots in polls:
                best = all_paths(n, ballots)
                self.assertEqual(ask_paths(n, ballots), [[best[a, b]] for a in range(n) for b in range(n)])


class RankedAndUnbeatenTest(unittest.TestCase):
    def check(self, n, ballots, ranking, members):
        told = ask(*poll(n, ballots), ranked(), unbeaten())[-2:]
        self.assertEqual(told, [[n, n] + ranking, [len(members), len(members)] + members])

    def test_a_plain_order(self):
        self.check(3, [(3, (2, 0, 1))], [2, 0, 1], [2])
        self.check(8, [(1, (7, 6, 5, 4, 3, 2, 1, 0))], [7, 6, 5, 4, 3, 2, 1, 0], [7])

    def test_two_candidates(self):
        self.check(2, [(2, (0,)), (3, (1,))], [1, 0], [1])
        self.check(2, [(3, (0,)), (2, (1,))], [0, 1], [0])
        self.check(2, [(3, (0,)), (3, (1,))], [0, 1], [0, 1])

    def test_a_circle_is_broken_at_its_weakest_step(self):
        self.check(3, CYCLE, [0, 1, 2], [0])
        self.check(3, [(2, (0, 1, 2)), (3, (1, 2, 0)), (4, (2, 0, 1))], [2, 0, 1], [2])

    def test_a_circle_of_like_steps_puts_nobody_above_another(self):
        self.check(3, [(1, (2, 1, 0)), (1, (1, 0, 2)), (1, (0, 2, 1))], [0, 1, 2], [0, 1, 2])

    def test_a_circle_above_a_plain_order(self):
        ballots = [(1, (4, 2, 3, 1, 0)), (1, (2, 3, 4, 1, 0)), (1, (3, 4, 2, 1, 0))]
        self.check(5, ballots, [2, 3, 4, 1, 0], [2, 3, 4])

    def test_who_is_beaten_may_be_above_all(self):
        self.check(5, WELL_KNOWN, [4, 0, 2, 1, 3], [4])

    def test_as_many_on_both_sides(self):
        self.check(3, [(3, (2,)), (3, (1,))], [1, 2, 0], [1, 2])
        self.check(4, [(3, (3, 1)), (3, (1, 3))], [1, 3, 0, 2], [1, 3])

    def test_one_who_is_above_nobody_may_be_unbeaten(self):
        # 3 is even with all; 2 is above 1, and 1 above 0.
        self.check(4, arrows(4, [(2, 1, 1), (1, 0, 1)]), [2, 1, 0, 3], [2, 3])

    def test_no_ballots_and_empty_orders(self):
        for n in range(2, 9):
            self.check(n, [], list(range(n)), list(range(n)))
            self.check(n, [(1, ()), (1000000, ())], list(range(n)), list(range(n)))

    def test_goes_with_the_ballots_and_changes_nothing(self):
        polls = poll(3, CYCLE) + [vote(20, 2, 1, 0)]
        told = ask(*polls, ranked(), unbeaten(), drop(3), ranked(), unbeaten())[5:]
        self.assertEqual(told, [[3, 3, 2, 1, 0], [1, 1, 2], [3], [3, 3, 0, 1, 2], [1, 1, 0]])
        for call in (ranked(), unbeaten(), path(1, 0)):
            told = ask(*poll(3, CYCLE), call, *everything(3, 3))
            self.assertEqual(told[5:], ask(*poll(3, CYCLE), *everything(3, 3))[4:])


class RankingPromiseTest(unittest.TestCase):
    def check(self, n, ballots):
        best, members, ranking, whole = ask(*poll(n, ballots), champion(), top(), ranked(), unbeaten())[-4:]
        above = are_above(n, ballots)
        self.check_order(n, above)
        self.assertEqual(ranking, [n, n] + sorted(range(n), key=lambda a: (-len(above[a]), a)))
        free = [a for a in range(n) if not any(a in above[b] for b in range(n))]
        self.assertEqual(whole, [len(free), len(free)] + free)
        self.assertGreaterEqual(len(free), 1)
        self.assertLessEqual(set(free), set(least_set(n, ballots)))
        self.assertLessEqual(set(whole[2:]), set(members[2:]))
        if best != [-5]:
            self.assertEqual([ranking[2], whole, members], [best[0], [1, 1] + best, [1, 1] + best])
        return best != [-5], len(free)

    def check_order(self, n, above):
        for a in range(n):
            self.assertNotIn(a, above[a])
            for b in above[a]:
                self.assertNotIn(a, above[b])
                self.assertLessEqual(set(above[b]), set(above[a]))

    def test_all_polls_of_three_ballots_on_three_candidates(self):
        found = {self.check(n, ballots) for n, ballots in small_polls()}
        self.assertEqual(found, {(True, 1), (False, 1), (False, 2), (False, 3)})

    def test_many_polls_of_every_size(self):
        found = {self.check(n, ballots) for n, ballots in some_polls()}
        self.assertLessEqual({(True, 1), (False, 1), (False, 2), (False, 3), (False, 4)}, found)

    def test_the_ranking_told_puts_nobody_behind_one_they_are_above(self):
        for n, ballots in some_polls():
            ranking = ask_last(*poll(n, ballots), ranked())[2:]
            above = are_above(n, ballots)
            for place, a in enumerate(ranking):
                self.assertFalse([b for b in ranking[:place] if b in above[a]])


if __name__ == "__main__":
    unittest.main()
