"""seats, turns and runoff on polls worked out by hand."""

import unittest
from fractions import Fraction

from orderpolls.seating import bring_to_lowest_terms
from tests.lines import MOST, ask, ask_last, begin, drop, everything, poll, runoff, seats, turns, vote


def tell(given):
    """The answer of turns, from each turn's candidate, 1 or 0, and what they had."""
    numbers = []
    for candidate, seated, had in given:
        had = Fraction(had)
        numbers += [candidate, seated, had.numerator, had.denominator]
    return [len(given), len(numbers)] + numbers


class SeatsCase(unittest.TestCase):
    def check(self, n, ballots, s, given):
        """The turns are those given; and the seats, and of one seat the runoff, are told as these turns are."""
        told = ask(*poll(n, ballots), turns(s), seats(s), runoff())[-3:]
        seated = [candidate for candidate, got, had in given if got]
        self.assertEqual(told[:2], [tell(given), [s, s] + seated])
        if s == 1:
            unseated = [candidate for candidate, got, had in given if not got]
            self.assertEqual(told[2], [len(unseated), len(unseated)] + unseated)


class HowManySeatsTest(SeatsCase):
    def test_refuses_what_is_not_1_to_n(self):
        for n in (2, 3, 8):
            for s in (0, n + 1, n + 2, 64, MOST):
                for call in (seats, turns):
                    self.assertEqual(ask(begin(n), call(s), vote(3, 1), call(s))[1:], [[-1], [0], [-1]])

    def test_takes_1_to_n(self):
        for n in range(2, 9):
            for s in range(1, n + 1):
                self.assertEqual(ask_last(begin(n), vote(5, 1, 0), seats(s))[:2], [s, s])
                self.assertGreaterEqual(ask_last(begin(n), vote(5, 1, 0), turns(s))[0], s)

    def test_refused_changes_nothing(self):
        polls = [begin(3), vote(4, 0, 1), vote(3, 2)]
        for call in (seats(0), turns(0), seats(4), turns(4), seats(MOST), turns(MOST)):
            self.assertEqual(ask(*polls, call, *everything(3, 2))[3:], [[-1]] + ask(*polls, *everything(3, 2))[3:])


class OneSeatTest(SeatsCase):
    def test_more_than_half_at_once(self):
        self.check(3, [(5, (1, 0)), (3, (0,)), (1, (2,))], 1, [(1, 1, 5)])

    def test_one_voter_over_half(self):
        self.check(2, [(1000000, (0,)), (1000000, (1,)), (1, (1,))], 1, [(1, 1, 1000001)])

    def test_just_the_quota_is_not_more_than_it(self):
        self.check(2, [(3, (0,)), (3, (1,))], 1, [(1, 0, 3), (0, 1, 3)])
        self.check(3, [(4, (2,)), (3, (0,)), (1, (1,))], 1, [(1, 0, 1), (0, 0, 3), (2, 1, 4)])

    def test_votes_go_on_from_who_has_the_least(self):
        self.check(3, [(4, (0,)), (3, (1, 2)), (2, (2, 1))], 1, [(2, 0, 2), (1, 1, 5)])

    def test_votes_pass_over_who_is_out_already(self):
        ballots = [(6, (0,)), (5, (1,)), (2, (2, 3, 1)), (1, (3, 2, 1))]
        self.check(4, ballots, 1, [(3, 0, 1), (2, 0, 3), (1, 1, 8)])

    def test_of_several_with_the_least_the_highest_number_is_out(self):
        ballots = [(3, (0,)), (1, (3,)), (1, (1,)), (2, (2,))]
        self.check(4, ballots, 1, [(3, 0, 1), (1, 0, 1), (2, 0, 2), (0, 1, 3)])

    def test_who_is_in_no_order_is_out_first(self):
        self.check(4, [(2, (3,)), (2, (1,))], 1, [(2, 0, 0), (0, 0, 0), (3, 0, 2), (1, 1, 2)])

    def test_orders_that_are_used_up_still_count_for_the_quota(self):
        self.check(3, [(4, (0,)), (3, (1,)), (2, (2,))], 1, [(2, 0, 2), (1, 0, 3), (0, 1, 4)])
        self.check(2, [(4, (0,)), (4, ())], 1, [(1, 0, 0), (0, 1, 4)])
        self.check(2, [(5, (1,)), (4, ())], 1, [(1, 1, 5)])

    def test_who_beats_all_others_may_be_out(self):
        self.check(3, [(4, (0, 2)), (3, (1, 2)), (2, (2, 1))], 1, [(2, 0, 2), (1, 1, 5)])

    def test_runoff_without_anybody_out(self):
        self.assertEqual(ask_last(begin(8), vote(1, 5), runoff()), [0, 0])

    def test_runoff_tells_only_who_is_out_not_who_is_left(self):
        ballots = [(1, (3, 0)), (4, (0,)), (2, (2,)), (2, (1,))]
        self.assertEqual(ask_last(*poll(4, ballots), runoff()), [1, 1, 3])


class SeveralSeatsTest(SeatsCase):
    def test_of_several_with_the_most_the_lowest_number_gets_the_seat(self):
        self.check(3, [(3, (2,)), (3, (1,)), (2, (0,))], 2, [(1, 1, 3), (2, 1, 3)])

    def test_the_most_is_taken_anew_each_turn(self):
        # The quota is 3. At first 2 has 1, the least of all; then 6 of 0's votes go on to them.
        self.check(3, [(9, (0, 2)), (2, (1,)), (1, (2,))], 3, [(0, 1, 9), (2, 1, 7), (1, 1, 2)])

    def test_votes_that_are_not_needed_go_on_in_quarters(self):
        # The quota is 11/4. 0 has 13/4 too many, 1 has 10/4 too many.
        ballots = [(6, (0, 1, 2)), (2, (1, 2)), (2, (2,)), (1, (3,))]
        self.check(4, ballots, 3, [(0, 1, 6), (1, 1, Fraction(21, 4)), (2, 1, Fraction(9, 2))])

    def test_fractions_are_in_lowest_terms(self):
        given = [(0, 1, 10), (1, 1, Fraction(15, 2)), (2, 1, 5)]
        self.check(3, [(10, (0, 1, 2))], 3, given)
        told = ask_last(begin(3), vote(10, 0, 1, 2), turns(3))
        self.assertEqual(told, [3, 12, 0, 1, 10, 1, 1, 1, 15, 2, 2, 1, 5, 1])

    def test_each_ballot_goes_on_to_its_own_next(self):
        # The quota is 5: half of each ballot that lay with 0 goes on.
        ballots = [(6, (0, 1)), (4, (0, 2)), (3, (3,)), (2, (2,))]
        self.check(4, ballots, 2, [(0, 1, 10), (3, 0, 3), (1, 0, 3), (2, 1, 4)])

    def test_what_has_gone_on_once_is_cut_again(self):
        # The quota is 4. Of 0's 8 half goes on, so 1 has 5, of which a fifth goes on: 4/5 of it 0's, 1/5 1's own.
        ballots = [(8, (0, 1, 3)), (1, (1, 2)), (3, (2,)), (4, (4, 3))]
        given = [(0, 1, 8), (1, 1, 5), (3, 0, Fraction(4, 5)), (2, 0, Fraction(16, 5)), (4, 1, 4)]
        self.check(5, ballots, 3, given)

    def test_votes_of_who_is_out_go_on_with_what_they_are_worth(self):
        # The quota is 4. 2 has half of 0's 8 and hands that on to 3.
        ballots = [(8, (0, 2, 3)), (5, (1,)), (3, (3,))]
        self.check(4, ballots, 3, [(0, 1, 8), (1, 1, 5), (3, 0, 3), (2, 1, 4)])
        ballots = [(6, (0, 2, 3)), (6, (1,)), (4, (3,))]
        self.check(4, ballots, 3, [(0, 1, 6), (1, 1, 6), (2, 0, 2), (3, 1, 6)])

    def test_who_has_just_the_quota_when_others_have_more(self):
        self.check(3, [(3, (0,)), (4, (1,)), (2, (2,))], 2, [(1, 1, 4), (2, 0, 2), (0, 1, 3)])

    def test_just_the_quota_in_fractions(self):
        # The quota is 5/2, and 1 has a vote and 3/2 of 0's.
        ballots = [(4, (0, 1)), (1, (1,)), (3, (2,)), (2, (3,))]
        self.check(4, ballots, 3, [(0, 1, 4), (2, 1, 3), (3, 0, 2), (1, 1, Fraction(5, 2))])

    def test_seats_are_filled_since_no_more_are_in_than_seats_are_left(self):
        # The quota is 3, and 0's votes go on whole, as no quota was taken.
        self.check(2, [(2, (0, 1)), (1, (1,)), (6, ())], 2, [(0, 1, 2), (1, 1, 3)])

    def test_a_filled_seat_may_bring_the_next_above_the_quota(self):
        ballots = [(4, (0, 1, 2)), (2, (1, 2)), (10, ())]
        self.check(3, ballots, 3, [(0, 1, 4), (1, 1, 6), (2, 1, 2)])

    def test_as_many_seats_as_candidates(self):
        self.check(3, [(4, (0, 1, 2))], 3, [(0, 1, 4), (1, 1, 3), (2, 1, 2)])
        self.check(2, [(1, (1,))], 2, [(1, 1, 1), (0, 1, 0)])

    def test_what_somebody_had_is_0(self):
        self.check(3, [(5, (1,))], 2, [(1, 1, 5), (2, 0, 0), (0, 1, 0)])
        self.assertEqual(ask_last(begin(3), vote(5, 1), turns(2)), [3, 12, 1, 1, 5, 1, 2, 0, 0, 1, 0, 1, 0, 1])

    def test_orders_that_are_used_up_go_on_to_nobody(self):
        self.check(3, [(5, (0,)), (1, (1,)), (1, (2,))], 2, [(0, 1, 5), (2, 0, 1), (1, 1, 1)])

    def test_no_turn_more_once_the_seats_are_filled(self):
        self.check(4, [(5, (0,)), (5, (1,)), (1, (2,))], 2, [(0, 1, 5), (1, 1, 5)])


class LowestTermsTest(unittest.TestCase):
    def test_no_number_above_1_divides_both(self):
        for number in range(60):
            for divisor in range(1, 60):
                expected = Fraction(number, divisor)
                told = bring_to_lowest_terms(number, divisor)
                self.assertEqual(told, [expected.numerator, expected.denominator])


class EmptyPollTest(SeatsCase):
    def test_no_ballots(self):
        for n in (2, 5, 8):
            for s in range(1, n + 1):
                out = [(candidate, 0, 0) for candidate in range(n - 1, s - 1, -1)]
                got = [(candidate, 1, 0) for candidate in range(s)]
                self.check(n, [], s, out + got)

    def test_empty_orders_alone(self):
        self.check(2, [(1000000, ()), (1, ())], 1, [(1, 0, 0), (0, 1, 0)])
        self.check(8, [(7, ())], 8, [(candidate, 1, 0) for candidate in range(8)])

    def test_runoff(self):
        self.assertEqual(ask_last(begin(2), runoff()), [1, 1, 1])
        self.assertEqual(ask_last(begin(8), runoff()), [7, 7, 7, 6, 5, 4, 3, 2, 1])


class LargePollTest(SeatsCase):
    def test_two_candidates_with_a_million_voters_each(self):
        ballots = [(1000000, (0, 1)), (1000000, (0, 1)), (1000000, (1,))]
        self.check(2, ballots, 1, [(0, 1, 2000000)])
        self.check(2, ballots, 2, [(0, 1, 2000000), (1, 1, 2000000)])

    def test_as_many_voters_as_there_may_be_of_one_order(self):
        order = (3, 0, 7, 1, 6, 2, 5, 4)
        voters = 64000000
        for s in range(1, 9):
            quota = Fraction(voters, s + 1)
            given = [(order[place], 1, voters - place * quota) for place in range(s)]
            self.check(8, [(1000000, order)] * 64, s, given)

    def test_eight_candidates_who_hand_on_to_one_another(self):
        ballots = [(1000000, (7, 6)), (1, (0, 1, 2, 3, 4, 5))]
        quota = Fraction(1000001, 3)
        self.check(8, ballots, 2, [(7, 1, 1000000), (6, 1, 1000000 - quota)])
        out = [(5, 0, 0), (4, 0, 0), (3, 0, 0), (2, 0, 0), (1, 0, 0)]
        quota = Fraction(1000001, 4)
        self.check(8, ballots, 3, [(7, 1, 1000000), (6, 1, 1000000 - quota)] + out + [(0, 1, 1)])


class StateTest(SeatsCase):
    def test_go_with_the_ballots(self):
        told = ask(begin(3), vote(5, 1), vote(4, 0), vote(2, 2, 0), seats(1), runoff(), drop(0), seats(1), turns(1))
        self.assertEqual(told[4:], [[1, 1, 0], [1, 1, 2], [2], [1, 1, 0], [1, 4, 0, 1, 4, 1]])

    def test_change_nothing(self):
        polls = poll(3, [(6, (0, 1, 2)), (2, (1, 2)), (2, (2,)), (1, ())])
        plain = ask(*polls, *everything(3, 4))[5:]
        for calls in ([seats(2)], [turns(3)], [runoff()], [turns(2), turns(2)], [seats(1), turns(1), runoff()]):
            self.assertEqual(ask(*polls, *calls, *everything(3, 4))[5 + len(calls):], plain)

    def test_answer_alike_when_asked_again(self):
        polls = poll(3, [(6, (0, 1, 2)), (2, (1, 2)), (2, (2,)), (1, ())])
        for call in (seats(2), turns(3), runoff()):
            told = ask(*polls, call, call)
            self.assertEqual(told[-1], told[-2])

    def test_a_new_poll_starts_over(self):
        told = ask(begin(3), vote(5, 1), turns(1), begin(2), turns(1), seats(2), runoff())
        self.assertEqual(told[2:], [[1, 4, 1, 1, 5, 1], [2], tell([(1, 0, 0), (0, 1, 0)]), [2, 2, 0, 1], [1, 1, 1]])


if __name__ == "__main__":
    unittest.main()
