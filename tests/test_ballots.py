"""begin, vote, drop, ballot and count."""

import unittest

from tests.lines import MOST, ask, ask_last, ballot, begin, count, drop, everything, firsts, pair, top, vote


class BeginTest(unittest.TestCase):
    def test_answers_how_many_candidates(self):
        for n in range(2, 9):
            self.assertEqual(ask(begin(n)), [[n]])

    def test_refuses_what_is_not_2_to_8(self):
        for n in (0, 1, 9, 10, 64, MOST):
            self.assertEqual(ask(begin(n)), [[-1]])

    def test_a_new_poll_has_its_candidates_and_no_ballots(self):
        for n in range(2, 9):
            told = ask(begin(n), firsts(), ballot(0), pair(n - 1, 0), pair(n, 0))
            self.assertEqual(told[1:], [[0, n] + [0] * n, [-4], [0], [-4]])

    def test_begins_anew_where_there_is_a_poll(self):
        told = ask(begin(3), vote(5, 0, 1), vote(2, 2), begin(4), *everything(4, 0), vote(1, 3))
        self.assertEqual(told[3:], ask(begin(4), *everything(4, 0), vote(1, 3)))
        self.assertEqual(told[-1], [0])

    def test_begins_anew_with_as_many_candidates_too(self):
        told = ask(begin(3), vote(5, 0, 1), begin(3), firsts(), ballot(0))
        self.assertEqual(told[2:], [[3], [0, 3, 0, 0, 0], [-4]])

    def test_begins_anew_with_fewer_candidates(self):
        told = ask(begin(8), vote(5, 7), begin(2), vote(1, 7), vote(1, 1), firsts())
        self.assertEqual(told[2:], [[2], [-1], [0], [1, 2, 0, 1]])

    def test_refused_leaves_the_poll(self):
        for n in (0, 1, 9, MOST):
            told = ask(begin(3), vote(5, 0, 1), begin(n), *everything(3, 1))
            self.assertEqual(told[2], [-1])
            self.assertEqual(told[3:], ask(begin(3), vote(5, 0, 1), *everything(3, 1))[2:])

    def test_refused_first_leaves_no_poll(self):
        self.assertEqual(ask(begin(1), firsts(), begin(9), firsts()), [[-1], [-9], [-1], [-9]])


class VoteTest(unittest.TestCase):
    def test_answers_the_ballots_number(self):
        told = ask(begin(3), vote(4, 2, 0, 1), vote(1, 1), vote(7, 0, 2))
        self.assertEqual(told, [[3], [0], [1], [2]])

    def test_puts_it_behind_all_others(self):
        told = ask(begin(3), vote(4, 2, 0, 1), vote(1, 1), ballot(0), ballot(1), ballot(2))
        self.assertEqual(told[3:], [[4, 3, 2, 0, 1], [1, 1, 1], [-4]])

    def test_like_ballots_stay_apart(self):
        told = ask(begin(2), vote(3, 1), vote(3, 1), ballot(0), ballot(1))
        self.assertEqual(told[1:], [[0], [1], [3, 1, 1], [3, 1, 1]])

    def test_takes_1_to_a_million_voters(self):
        for m in (1, 2, 999999, 1000000):
            self.assertEqual(ask(begin(2), vote(m, 0), ballot(0))[1:], [[0], [m, 1, 0]])

    def test_refuses_other_numbers_of_voters(self):
        for m in (0, 1000001, MOST):
            self.assertEqual(ask(begin(2), vote(m, 0), ballot(0))[1:], [[-1], [-4]])

    def test_takes_an_empty_order(self):
        self.assertEqual(ask(begin(2), vote(3), ballot(0)), [[2], [0], [3, 0]])

    def test_takes_a_full_order(self):
        for n in range(2, 9):
            order = list(range(n - 1, -1, -1))
            told = ask(begin(n), vote(3, *order), ballot(0))
            self.assertEqual(told[1:], [[0], [3, n] + order])

    def test_refuses_a_candidate_that_stands_twice(self):
        for order in ((0, 0), (1, 0, 1), (0, 1, 2, 2), (2, 0, 1, 2), (1,) * 20):
            self.assertEqual(ask(begin(3), vote(1, *order), ballot(0))[1:], [[-1], [-4]])

    def test_refuses_a_candidate_that_is_not_there(self):
        for order in ((3,), (0, 3), (3, 0), (0, 1, 2, 3), (MOST,), tuple(range(20))):
            self.assertEqual(ask(begin(3), vote(1, *order), ballot(0))[1:], [[-1], [-4]])

    def test_refused_order_is_read_to_its_end(self):
        self.assertEqual(ask(begin(2), vote(1, *range(20)), vote(1, 1, 0)), [[2], [-1], [0]])

    def test_64_ballots_and_no_more(self):
        told = ask(begin(2), *[vote(i + 1, i % 2) for i in range(65)], ballot(63), ballot(64), firsts())
        self.assertEqual(told[1:65], [[i] for i in range(64)])
        self.assertEqual(told[65:], [[-6], [64, 1, 1], [-4], [64 * 65 // 2, 2, 32 * 32, 32 * 33]])

    def test_a_wrong_vote_is_told_before_a_full_poll(self):
        full = [begin(2)] + [vote(1, 0)] * 64
        for wrong in (vote(0, 0), vote(1000001, 0), vote(1, 0, 0), vote(1, 2), vote(0, 2, 2)):
            self.assertEqual(ask_last(*full, wrong), [-1])
        self.assertEqual(ask_last(*full, vote(1)), [-6])

    def test_there_is_room_again_after_a_drop(self):
        full = [begin(2)] + [vote(1, 0)] * 64
        self.assertEqual(ask(*full, drop(10), vote(9, 1), ballot(63), vote(1, 0))[65:], [[63], [63], [9, 1, 1], [-6]])

    def test_refused_changes_nothing(self):
        polls = [begin(3), vote(5, 0, 1), vote(2, 2)]
        for wrong in (vote(0, 1), vote(1000001, 1), vote(1, 1, 1), vote(1, 1, 3)):
            told = ask(*polls, wrong, *everything(3, 2), vote(1, 0))
            self.assertEqual(told[4:], ask(*polls, *everything(3, 2), vote(1, 0))[3:])

    def test_refused_by_a_full_poll_changes_nothing(self):
        full = [begin(2)] + [vote(1, 0)] * 64
        asked = [firsts(), pair(1, 0), pair(0, 1), ballot(0), ballot(63), ballot(64), top()]
        self.assertEqual(ask(*full, vote(1000, 1), *asked)[66:], ask(*full, *asked)[65:])


class DropTest(unittest.TestCase):
    polls = [begin(4), vote(10, 0), vote(11, 1, 0), vote(12, 2), vote(13), vote(14, 3, 2, 1, 0)]
    told = [[10, 1, 0], [11, 2, 1, 0], [12, 1, 2], [13, 0], [14, 4, 3, 2, 1, 0]]

    def test_first_middle_and_last(self):
        for i in range(5):
            answers = ask(*self.polls, drop(i), *[ballot(k) for k in range(5)])[6:]
            left = self.told[:i] + self.told[i + 1:]
            self.assertEqual(answers, [[4]] + left + [[-4]])

    def test_the_next_ballot_goes_behind_those_left(self):
        told = ask(*self.polls, drop(1), vote(20, 1), ballot(4), ballot(1))[6:]
        self.assertEqual(told, [[4], [4], [20, 1, 1], [12, 1, 2]])

    def test_till_none_is_left(self):
        told = ask(*self.polls, *[drop(0)] * 6)[6:]
        self.assertEqual(told, [[4], [3], [2], [1], [0], [-4]])

    def test_its_voters_are_gone(self):
        told = ask(*self.polls, drop(4), firsts(), pair(3, 2), pair(1, 0))[7:]
        self.assertEqual(told, [[46, 4, 10, 11, 12, 0], [0], [11]])

    def test_refuses_a_ballot_that_is_not_there(self):
        self.assertEqual(ask(begin(2), drop(0)), [[2], [-4]])
        for i in (5, 6, 64, MOST):
            told = ask(*self.polls, drop(i), *everything(4, 5))[6:]
            self.assertEqual(told, [[-4]] + ask(*self.polls, *everything(4, 5))[6:])


class BallotTest(unittest.TestCase):
    def test_answers_its_voters_and_its_order(self):
        told = ask(begin(8), vote(6, 7, 0, 3), vote(1), ballot(1), ballot(0), ballot(0))
        self.assertEqual(told[3:], [[1, 0], [6, 3, 7, 0, 3], [6, 3, 7, 0, 3]])

    def test_refuses_a_ballot_that_is_not_there(self):
        self.assertEqual(ask_last(begin(2), ballot(0)), [-4])
        for i in (1, 2, 64, MOST):
            self.assertEqual(ask_last(begin(2), vote(1, 0), ballot(i)), [-4])


class CountTest(unittest.TestCase):
    def test_without_ballots(self):
        for n in range(2, 9):
            self.assertEqual(ask_last(begin(n), count()), [n, 2, 0, 0])

    def test_tells_candidates_ballots_and_voters(self):
        told = ask(begin(3), vote(4, 2, 0), count(), vote(1, 1), count(), vote(9), count())
        self.assertEqual(told[2::2], [[3, 2, 1, 4], [3, 2, 2, 5], [3, 2, 3, 14]])

    def test_as_many_as_there_may_be(self):
        told = ask(begin(8), *[vote(1000000, 1)] * 64, count(), vote(1, 0), count())
        self.assertEqual(told[65:], [[8, 2, 64, 64000000], [-6], [8, 2, 64, 64000000]])

    def test_after_drop(self):
        told = ask(begin(2), vote(4, 0), vote(1, 1), drop(0), count(), drop(1), count(), drop(0), count())
        self.assertEqual(told[3:], [[1], [2, 2, 1, 1], [-4], [2, 2, 1, 1], [0], [2, 2, 0, 0]])

    def test_after_another_begin(self):
        told = ask(begin(2), vote(4, 0), begin(9), count(), begin(5), count())
        self.assertEqual(told[2:], [[-1], [2, 2, 1, 4], [5], [5, 2, 0, 0]])


if __name__ == "__main__":
    unittest.main()
