"""The line of calls as a whole: how calls and answers stand, what is refused without a poll, what is kept."""

import unittest

from orderpolls.desk import answers
from tests import lines
from tests.lines import MOST, ask, ballot, begin, champion, drop, everything, firsts, join, pair, top, vote

MIXED = [
    begin(3), vote(4, 0, 1, 2), vote(3, 1, 2, 0), vote(2, 2, 0, 1), vote(0), vote(1, 1, 1), ballot(1), ballot(7),
    firsts(), pair(0, 1), pair(0, 3), champion(), top(), drop(0), drop(5), champion(), top(), begin(9), firsts(),
]


class LineTest(unittest.TestCase):
    def test_calls_and_answers_number_by_number(self):
        calls = [0, 3, 1, 5, 2, 2, 0, 1, 4, 0, 3, 0, 3, 1, 4, 5, 2, 1, 6, 7, 2, 0, 6, 2, 9]
        told = [1, 3, 1, 0, 1, 1, 4, 5, 2, 2, 0, 2, 4, 0, 5, 9, 3, 0, 0, 5, 1, 5, 1, 2, 3, 1, 1, 2, 1, 1, 1, -5, 1, -4]
        self.assertEqual(answers(calls), told)

    def test_one_call(self):
        self.assertEqual(answers([0, 2]), [1, 2])
        self.assertEqual(answers([7]), [1, -9])

    def test_a_hundred_calls_with_the_longest_orders(self):
        calls = [begin(8)] + [vote(MOST, *[MOST] * 20)] * 98 + [firsts()]
        self.assertEqual(ask(*calls), [[8]] + [[-1]] * 98 + [[0, 8] + [0] * 8])

    def test_gives_a_list_of_whole_numbers(self):
        told = answers(join(MIXED))
        self.assertIs(type(told), list)
        self.assertEqual({type(number) for number in told}, {int})


class NoPollTest(unittest.TestCase):
    def test_all_but_begin_is_refused(self):
        calls = [
            vote(1, 0), drop(0), ballot(0), firsts(), pair(0, 1), champion(), top(), lines.path(0, 1), lines.ranked(),
            lines.unbeaten(), lines.seats(1), lines.turns(1), lines.runoff(), lines.count(),
        ]
        for call in calls:
            self.assertEqual(ask(call), [[-9]])
        self.assertEqual(ask(*calls, begin(2), firsts()), [[-9]] * 14 + [[2], [0, 2, 0, 0]])

    def test_is_told_before_other_refusals(self):
        for call in (vote(0), vote(1, 0, 0), vote(MOST, MOST), drop(MOST), ballot(MOST), pair(MOST, MOST)):
            self.assertEqual(ask(call), [[-9]])

    def test_a_refused_vote_is_not_kept_for_later(self):
        self.assertEqual(ask(vote(1, 0), begin(2), firsts(), vote(5, 1)), [[-9], [2], [0, 2, 0, 0], [0]])


class RefusalTest(unittest.TestCase):
    def test_a_call_that_refuses_changes_nothing(self):
        polls = [begin(3), vote(2, 0, 1), vote(2, 1, 0), vote(3)]
        refused = [
            begin(1), begin(9), vote(0, 0), vote(1000001, 0), vote(1, 2, 2), vote(1, 3), drop(3), ballot(3),
            pair(0, 3), pair(3, 0), champion(),
        ]
        expected = ask(*polls, *everything(3, 3), vote(1, 2))[4:]
        for call in refused:
            told = ask(*polls, call, *everything(3, 3), vote(1, 2))[4:]
            self.assertEqual(len(told[0]), 1)
            self.assertLess(told[0][0], 0)
            self.assertEqual(told[1:], expected)


class KeepsNothingTest(unittest.TestCase):
    def test_the_list_handed_in_stays_as_it_was(self):
        calls = join(MIXED)
        answers(calls)
        self.assertEqual(calls, join(MIXED))

    def test_the_list_handed_in_is_not_changed_for_a_while_either(self):
        class Watched(list):
            def refuse(self, *given, **named):
                raise AssertionError("the list handed in was changed")

            append = extend = insert = pop = remove = clear = sort = reverse = refuse
            __setitem__ = __delitem__ = __iadd__ = __imul__ = refuse

        self.assertEqual(answers(Watched(join(MIXED))), answers(join(MIXED)))

    def test_a_second_time_answers_as_the_first(self):
        calls = join(MIXED)
        first = answers(calls)
        self.assertEqual(answers(calls), first)
        self.assertEqual(answers([4]), [1, -9])
        self.assertEqual(answers(calls), first)

    def test_the_list_given_back_is_a_new_one_each_time(self):
        calls = join(MIXED)
        first = answers(calls)
        kept = list(first)
        first.clear()
        self.assertEqual(answers(calls), kept)


if __name__ == "__main__":
    unittest.main()
