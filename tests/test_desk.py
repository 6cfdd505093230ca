"""The line of calls as a whole: how calls and answers stand, what is refused without a poll, what is kept."""

import unittest

from orderpolls.desk import answers
from tests.lines import MOST, ask, ballot, begin, champion, count, drop, everything, firsts, join, pair, path, ranked
from tests.lines import runoff, seats, top, turns, unbeaten, vote

MIXED = [
    begin(3), vote(4, 0, 1, 2), vote(3, 1, 2, 0), vote(2, 2, 0, 1), vote(0), vote(1, 1, 1), ballot(1), ballot(7),
    firsts(), pair(0, 1), pair(0, 3), champion(), top(), path(2, 1), path(0, 0), path(3, 0), ranked(), unbeaten(),
    seats(2), seats(0), turns(2), turns(4), runoff(), count(), drop(0), drop(5), champion(), top(), path(0, 1),
    ranked(), unbeaten(), seats(3), turns(3), runoff(), count(), begin(9), firsts(), begin(2), turns(1), count(),
]


class LineTest(unittest.TestCase):
    def test_calls_and_answers_number_by_number(self):
        calls = [0, 3, 1, 5, 2, 2, 0, 1, 4, 0, 3, 0, 3, 1, 4, 5, 2, 1, 6, 7, 2, 0, 6, 2, 9]
        told = [1, 3, 1, 0, 1, 1, 4, 5, 2, 2, 0, 2, 4, 0, 5, 9, 3, 0, 0, 5, 1, 5, 1, 2, 3, 1, 1, 2, 1, 1, 1, -5, 1, -4]
        self.assertEqual(answers(calls), told)

    def test_the_later_calls_number_by_number(self):
        calls = [0, 3, 1, 6, 2, 2, 0, 1, 2, 1, 0, 8, 2, 1, 8, 1, 2, 9, 10, 11, 2, 12, 2, 13, 14, 8, 0, 3, 11, 4, 12, 0]
        told = [1, 3, 1, 0, 1, 1, 1, 6, 1, 0, 5, 3, 3, 2, 0, 1, 3, 1, 1, 2, 4, 2, 2, 2, 0]
        told += [10, 2, 8, 2, 1, 6, 1, 0, 1, 16, 3, 2, 0, 0, 4, 3, 2, 2, 8, 1, -4, 1, -1, 1, -1]
        self.assertEqual(answers(calls), told)

    def test_one_call(self):
        self.assertEqual(answers([0, 2]), [1, 2])
        self.assertEqual(answers([7]), [1, -9])

    def test_a_hundred_calls_with_the_longest_orders(self):
        calls = [begin(8)] + [vote(MOST, *[MOST] * 20)] * 98 + [firsts()]
        self.assertEqual(ask(*calls), [[8]] + [[-1]] * 98 + [[0, 8] + [0] * 8])

    def test_a_hundred_calls_that_all_hold(self):
        orders = [[(start + step * place) % 8 for place in range(8)] for start in range(8) for step in (1, 3, 5, 7)]
        calls = [begin(8)] + [vote(1000000 - place, *order) for place, order in enumerate(orders * 2)]
        asked = [firsts(), champion(), top(), ranked(), unbeaten(), runoff(), count()]
        asked += [call(s) for s in range(1, 9) for call in (seats, turns)]
        asked += [path(0, b) for b in range(8)] + [pair(1, 2)] * 4
        told = ask(*calls, *asked)
        self.assertEqual([len(calls + asked), len(told)], [100, 100])
        self.assertEqual(told[:65], [[8]] + [[place] for place in range(64)])
        self.assertEqual(told[71], [8, 2, 64, 64 * 1000000 - 63 * 32])

    def test_a_line_of_16000_numbers(self):
        # Orders as long as they may be make up no such line: these are longer, and are refused all the same.
        calls = join([begin(8)] + [vote(1, *range(158))] * 98 + [vote(1, *range(217))])
        self.assertEqual(len(calls), 16000)
        self.assertEqual(answers(calls), [1, 8] + [1, -1] * 99)

    def test_gives_a_list_of_whole_numbers(self):
        told = answers(join(MIXED))
        self.assertIs(type(told), list)
        self.assertEqual({type(number) for number in told}, {int})


class NoPollTest(unittest.TestCase):
    def test_all_but_begin_is_refused(self):
        calls = [
            vote(1, 0), drop(0), ballot(0), firsts(), pair(0, 1), champion(), top(), path(0, 1), ranked(), unbeaten(),
            seats(1), turns(1), runoff(), count(),
        ]
        for call in calls:
            self.assertEqual(ask(call), [[-9]])
        self.assertEqual(ask(*calls, begin(2), firsts()), [[-9]] * 14 + [[2], [0, 2, 0, 0]])

    def test_is_told_before_other_refusals(self):
        calls = [
            vote(0), vote(1, 0, 0), vote(MOST, MOST), drop(MOST), ballot(MOST), pair(MOST, MOST), path(MOST, MOST),
            seats(0), seats(MOST), turns(0), turns(MOST),
        ]
        for call in calls:
            self.assertEqual(ask(call), [[-9]])
            self.assertEqual(ask(begin(9), call), [[-1], [-9]])

    def test_a_refused_vote_is_not_kept_for_later(self):
        self.assertEqual(ask(vote(1, 0), begin(2), firsts(), vote(5, 1)), [[-9], [2], [0, 2, 0, 0], [0]])


class RefusalTest(unittest.TestCase):
    def test_a_call_that_refuses_changes_nothing(self):
        polls = [begin(3), vote(2, 0, 1), vote(2, 1, 0), vote(3)]
        refused = [
            begin(1), begin(9), vote(0, 0), vote(1000001, 0), vote(1, 2, 2), vote(1, 3), drop(3), ballot(3),
            pair(0, 3), pair(3, 0), champion(), path(0, 3), path(3, 0), path(MOST, 0), seats(0), seats(4), turns(0),
            turns(4), turns(MOST),
        ]
        expected = ask(*polls, *everything(3, 3), vote(1, 2))[4:]
        for call in refused:
            told = ask(*polls, call, *everything(3, 3), vote(1, 2))[4:]
            self.assertEqual(len(told[0]), 1)
            self.assertLess(told[0][0], 0)
            self.assertEqual(told[1:], expected)


class KeepsNothingTest(unittest.TestCase):
    def test_the_list_handed_in_stays_as_it_was(self):
        calls = join(MIXED)
        answers(calls)
        self.assertEqual(calls, join(MIXED))

    def test_the_list_handed_in_is_not_changed_for_a_while_either(self):
        class Watched(list):
            def refuse(self, *given, **named):
                raise AssertionError("the list handed in was changed")

            append = extend = insert = pop = remove = clear = sort = reverse = refuse
            __setitem__ = __delitem__ = __iadd__ = __imul__ = refuse

        self.assertEqual(answers(Watched(join(MIXED))), answers(join(MIXED)))

    def test_a_second_time_answers_as_the_first(self):
        calls = join(MIXED)
        first = answers(calls)
        self.assertEqual(answers(calls), first)
        self.assertEqual(answers([4]), [1, -9])
        self.assertEqual(answers(calls), first)

    def test_the_list_given_back_is_a_new_one_each_time(self):
        calls = join(MIXED)
        first = answers(calls)
        kept = list(first)
        first.clear()
        self.assertEqual(answers(calls), kept)


if __name__ == "__main__":
    unittest.main()
