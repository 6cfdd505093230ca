"""firsts, pair, champion and top, and what P1 says of the least set."""

import unittest

from tests.lines import CYCLE, MOST, ask, ask_last, beat, begin, champion, drop, firsts, least_set, pair, poll, prefer
from tests.lines import small_polls, some_polls, top, vote


class FirstsTest(unittest.TestCase):
    def test_counts_voters_and_firsts(self):
        ballots = [(3, (1, 0)), (5, (2,)), (7, (1, 2, 0)), (1000000, (3,))]
        self.assertEqual(ask_last(*poll(4, ballots), firsts()), [1000015, 4, 0, 10, 5, 1000000])

    def test_an_empty_order_has_voters_and_no_first(self):
        self.assertEqual(ask_last(begin(2), vote(6), vote(1, 1), firsts()), [7, 2, 0, 1])

    def test_no_ballots(self):
        self.assertEqual(ask_last(begin(8), firsts()), [0, 8, 0, 0, 0, 0, 0, 0, 0, 0])

    def test_as_many_voters_as_there_may_be(self):
        full = [begin(2)] + [vote(1000000, 1)] * 64
        self.assertEqual(ask_last(*full, firsts()), [64000000, 2, 0, 64000000])


class PairTest(unittest.TestCase):
    def test_who_comes_ahead_is_preferred(self):
        told = ask(begin(3), vote(5, 2, 0, 1), vote(3, 1, 2, 0), pair(2, 0), pair(0, 1), pair(1, 0), pair(0, 2))
        self.assertEqual(told[3:], [[8], [5], [3], [0]])

    def test_who_is_in_the_order_is_preferred_to_who_is_not(self):
        told = ask(begin(3), vote(5, 1), pair(1, 0), pair(1, 2), pair(0, 1), pair(0, 2), pair(2, 0))
        self.assertEqual(told[2:], [[5], [5], [0], [0], [0]])

    def test_an_empty_order_prefers_nobody(self):
        self.assertEqual(ask(begin(2), vote(5), pair(0, 1), pair(1, 0))[2:], [[0], [0]])

    def test_0_of_one_and_the_same(self):
        told = ask(begin(3), vote(5, 1), vote(2, 0, 1, 2), pair(0, 0), pair(1, 1), pair(2, 2))
        self.assertEqual(told[3:], [[0], [0], [0]])

    def test_refuses_a_candidate_that_is_not_there(self):
        for a, b in ((3, 0), (0, 3), (3, 3), (MOST, 0), (2, MOST), (MOST, MOST)):
            self.assertEqual(ask(begin(3), vote(1, 0), pair(a, b), pair(0, 2))[2:], [[-4], [1]])
        self.assertEqual(ask(begin(8), pair(7, 0), pair(8, 0), pair(0, 8))[1:], [[0], [-4], [-4]])

    def test_as_told_of_many_polls(self):
        for n, ballots in some_polls():
            pairs = [(a, b) for a in range(n) for b in range(n)]
            told = ask(*poll(n, ballots), *[pair(a, b) for a, b in pairs])[1 + len(ballots):]
            self.assertEqual(told, [[prefer(ballots, a, b)] for a, b in pairs])


class ChampionTest(unittest.TestCase):
    def test_who_beats_each_other_one(self):
        ballots = [(4, (0, 2)), (3, (1, 2)), (2, (2, 1))]
        self.assertEqual(ask_last(*poll(3, ballots), champion()), [2])

    def test_each_may_be_it(self):
        for n in range(2, 9):
            for candidate in range(n):
                told = ask(begin(n), vote(1, candidate), champion(), top())
                self.assertEqual(told[2:], [[candidate], [1, 1, candidate]])

    def test_nobody_in_a_circle(self):
        self.assertEqual(ask_last(*poll(3, CYCLE), champion()), [-5])

    def test_as_many_on_both_sides_beat_nobody(self):
        self.assertEqual(ask_last(begin(2), vote(3, 0, 1), vote(3, 1), champion()), [-5])
        self.assertEqual(ask_last(begin(3), vote(3, 0), vote(3, 1), champion()), [-5])

    def test_nobody_without_ballots_or_with_empty_orders(self):
        self.assertEqual(ask(begin(2), champion(), vote(9), champion()), [[2], [-5], [0], [-5]])

    def test_one_voter_more_is_enough(self):
        polls = [begin(2), vote(1000000, 0), vote(1000000, 1)]
        self.assertEqual(ask_last(*polls, vote(1, 1), champion()), [1])

    def test_goes_with_the_ballots(self):
        told = ask(begin(2), vote(2, 0), vote(3, 1), champion(), drop(1), champion(), drop(0), champion())
        self.assertEqual([told[3], told[5], told[7]], [[1], [0], [-5]])


class TopTest(unittest.TestCase):
    def test_a_circle_is_one_set(self):
        self.assertEqual(ask_last(*poll(3, CYCLE), top()), [3, 3, 0, 1, 2])

    def test_a_circle_above_others_rising(self):
        ballots = [(4, (5, 1, 3)), (3, (1, 3, 5)), (2, (3, 5, 1))]
        self.assertEqual(ask_last(*poll(6, ballots), top()), [3, 3, 1, 3, 5])

    def test_as_many_on_both_sides_stay_together(self):
        self.assertEqual(ask_last(begin(4), vote(3, 3, 1), vote(3, 1, 3), top()), [2, 2, 1, 3])

    def test_one_who_is_only_not_beaten_by_one_of_the_set_is_in_it(self):
        # 0 beats 1, 1 beats 2, and 2 is even with 0; 3 is beaten by all.
        ballots = [(2, (0, 1, 2, 3)), (1, (2, 0, 1, 3)), (1, (2, 1, 0, 3))]
        self.assertEqual([least_set(4, ballots), beat(ballots, 0, 1)], [[0, 1, 2], True])
        self.assertEqual(ask_last(*poll(4, ballots), top()), [3, 3, 0, 1, 2])

    def test_all_without_ballots(self):
        for n in range(2, 9):
            self.assertEqual(ask_last(begin(n), top()), [n, n] + list(range(n)))

    def test_changes_nothing(self):
        told = ask(*poll(3, CYCLE), top(), champion(), top(), firsts())[4:]
        self.assertEqual(told, [[3, 3, 0, 1, 2], [-5], [3, 3, 0, 1, 2], [9, 3, 4, 3, 2]])


class LeastSetPromiseTest(unittest.TestCase):
    def check(self, polls):
        lengths = {}
        for n, ballots in polls:
            best, members = ask(*poll(n, ballots), champion(), top())[-2:]
            expected = least_set(n, ballots)
            self.assertEqual(members, [len(expected), len(expected)] + expected)
            winners = [a for a in range(n) if all(beat(ballots, a, b) for b in range(n) if b != a)]
            self.assertEqual(best, winners or [-5])
            if winners:
                self.assertEqual(members, [1, 1] + winners)
            else:
                self.assertGreater(members[0], 1)
            lengths[len(expected)] = True
        return sorted(lengths)

    def test_all_polls_of_three_ballots_on_three_candidates(self):
        self.assertEqual(self.check(small_polls()), [1, 2, 3])

    def test_many_polls_of_every_size(self):
        self.assertEqual(self.check(some_polls()), list(range(1, 9)))


if __name__ == "__main__":
    unittest.main()
