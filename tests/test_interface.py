"""'The interface': how calls and answers stand in their lists, and what holds for any of them."""

import unittest

from poolreferee.race import answers
from tests.helper import (DRY_BREAK, LEAST, MISS, MOST, NOW, ON, PUSH, TABLE, WEAK_BREAK, all_answers, begin, choose,
                          parted, race_by_rote, row_of, shot)

MIXED = [
    begin(7), DRY_BREAK, begin(8, 2, 0, 1), WEAK_BREAK, shot(1), choose(2), choose(1), shot(1, [1]),
    shot(2, [2, 3], called=2), shot(4, [8]), begin(9, 1), DRY_BREAK, shot(1, [], push=1), choose(0),
    shot(1, list(range(16))), shot(1, [9]), choose(0),
]
# All six calls, taken and refused.
ALL_SIX = [
    ON, NOW, TABLE, begin(8, 1, 0, 1), ON, NOW, TABLE, WEAK_BREAK, NOW, choose(0), shot(1, [1, 9], called=9), shot(3),
    ON, NOW, TABLE, shot(10, [8]), ON, NOW, TABLE, begin(9), MISS, PUSH, ON, NOW, choose(1), NOW, TABLE,
]


class InterfaceTest(unittest.TestCase):
    def test_one_call(self):
        self.assertEqual(answers([1, 8, 1, 0, 0]), [1, 0])
        self.assertEqual(answers([1, 0, 1, 0, 0]), [1, -1])
        self.assertEqual(answers([2, 1, 4, 0, 0, 0, 0]), [1, -2])
        self.assertEqual(answers([3, 0]), [1, -2])
        self.assertEqual(answers([4]), [1, -2])
        self.assertEqual(answers([5]), [3, 0, 0, 0])
        self.assertEqual(answers([6]), [1, -2])

    def test_several_calls_in_one_list(self):
        calls = [1, 9, 1, 0, 1, 2, 1, 0, 0, 5, 0, 2, 2, 3, 3, 1, 2, 4, 1, 0, 0, 1, 1, 4, 3, 0, 2, 1, 0, 0, 0, 0, 1, 9]
        told = [1, 0, 7, 0, 0, 0, 1, 1, 0, 7, 1, -3, 7, 0, 0, 0, 0, 3, 0, 6, 7, 0, 0, 0, 0, 2, 0, 6, 3, 2, 1, 0]
        self.assertEqual(answers(calls), told)

    def test_the_numbers_of_a_shot_stand_in_their_order(self):
        # First 2, cushions 4, lost 1, called 3, no push, potted 5 and 6.
        self.assertEqual(answers([1, 8, 1, 0, 0, 2, 2, 4, 1, 3, 0, 2, 5, 6]), [1, 0, 7, 1, 0, 0, 1, 2, 1, 13])

    def test_each_answer_has_its_count_ahead(self):
        told = answers(row_of(MIXED))
        self.assertEqual(len(parted(told)), len(MIXED))
        self.assertEqual(sum(1 + len(answer) for answer in parted(told)), len(told))
        self.assertEqual(parted(told), [
            [-1], [-2], [0], [0, 0, 0, 0, 3, 0, 15], [-3], [-1], [1, 0, 0, 0, 0, 1, 15], [0, 0, 0, 0, 2, 0, 14],
            [0, 0, 0, 0, 2, 0, 12], [3, 0, 1, 1, 0, 1, 15], [0], [0, 0, 0, 1, 1, 0, 9], [0, 0, 0, 0, 3, 0, 9],
            [0, 0, 0, 0, 2, 0, 9], [-1], [2, 1, 0], [-2],
        ])

    def test_all_six_calls_in_one_list(self):
        lows, highs = list(range(2, 8)), list(range(10, 16))
        self.assertEqual(all_answers(*ALL_SIX), [
            [-2], [0, 0, 0], [-2], [0], [15] + list(range(1, 16)), [1, 0, 0, 1, 0, 1, 15, 0, 0, 0, 1, 0],
            [15] + list(range(1, 16)), [0, 0, 0, 0, 3, 0, 15], [1, 0, 0, 0, 3, 0, 15, 0, 0, 0, 1, 0],
            [0, 0, 0, 0, 2, 0, 15], [0, 0, 0, 0, 2, 0, 13], [1, 0, 0, 1, 2, 1, 13], [6] + lows,
            [1, 0, 0, 1, 2, 1, 13, 2, 0, 0, 1, 0], [13] + lows + [8] + highs, [2, 1, 0], [-2], [0, 1, 0], [-2], [0],
            [1, 0, 0, 1, 1, 1, 9], [0, 0, 0, 0, 3, 0, 9], [1, 1], [1, 0, 0, 0, 3, 0, 9, 0, 1, 0, 0, 1],
            [1, 0, 0, 1, 2, 0, 9], [1, 0, 0, 1, 2, 0, 9, 0, 1, 0, 0, 0], [9] + list(range(1, 10)),
        ])

    def test_calls_without_numbers_stand_between_those_that_have_some(self):
        calls = [4, 1, 9, 1, 0, 1, 6, 2, 1, 0, 0, 5, 0, 2, 2, 3, 4, 5, 5, 3, 1, 6]
        told = [1, -2, 1, 0, 10, 9, 1, 2, 3, 4, 5, 6, 7, 8, 9, 7, 0, 0, 0, 1, 1, 0, 7, 2, 1, 1,
                12, 1, 0, 0, 1, 1, 0, 7, 0, 0, 0, 1, 0, 12, 1, 0, 0, 1, 1, 0, 7, 0, 0, 0, 1, 0, 1, -3,
                8, 7, 1, 4, 5, 6, 7, 8, 9]
        self.assertEqual(answers(calls), told)

    def test_a_list_of_250_calls_of_all_six(self):
        calls = ([begin(9, 30)] + [MISS, ON, NOW, TABLE, choose(0)] * 50)[:250]
        told = all_answers(*calls)
        self.assertEqual(len(told), 250)
        # Both sides foul by turns, so that each rack ends with the fifth foul, and whoever broke it loses it.
        self.assertEqual(told[245:], [[-3], [2, 5, 5, 0, 0, 1, 9], [1, 1], [1, 5, 5, 0, 0, 1, 9, 0, 0, 0, 0, 0],
                                      [9] + list(range(1, 10))])

    def test_a_list_of_250_calls(self):
        calls = [begin(9, 30)] + [shot(1)] * 249
        told = all_answers(*calls)
        self.assertEqual(len(told), 250)
        # The first shot is a break with too few cushions; behind it each passes the turn.
        self.assertEqual(told[1], [1, 0, 0, 1, 1, 1, 9])
        self.assertEqual(told[2:], [[0, 0, 0, number % 2, 2, 0, 9] for number in range(248)])

    def test_the_longest_list(self):
        calls = [shot(MOST, [LEAST] * 16)] * 250
        self.assertEqual(answers(row_of(calls)), [1, -1] * 250)

    def test_a_list_of_potted_balls_ends_where_its_count_says(self):
        calls = [begin(8), shot(1, []), begin(8), shot(1, [1] * 16), shot(1, list(range(1, 16))), choose(0)]
        self.assertEqual(all_answers(*calls)[2:], [[0], [-4], [0, 0, 0, 0, 2, 0, 1], [-3]])

    def test_what_is_handed_in_is_not_changed(self):
        for calls in (row_of(MIXED), row_of(ALL_SIX)):
            kept = list(calls)
            answers(calls)
            self.assertEqual(calls, kept)

    def test_the_same_list_twice_gives_the_same_answer_twice(self):
        for told in (MIXED, ALL_SIX, [begin(8), DRY_BREAK], [begin(9), MISS, shot(1), MISS], [NOW, ON, TABLE]):
            self.assertEqual(answers(row_of(told)), answers(row_of(told)))

    def test_nothing_is_kept_from_one_time_to_the_next(self):
        answers(row_of([begin(8), WEAK_BREAK]))
        self.assertEqual(all_answers(DRY_BREAK, choose(0)), [[-2], [-2]])
        self.assertEqual(all_answers(ON, NOW, TABLE), [[-2], [0, 0, 0], [-2]])

    def test_what_is_given_back_is_a_new_list(self):
        calls = row_of([begin(8), DRY_BREAK, NOW, ON, TABLE])
        told = answers(calls)
        told.append(5)
        self.assertEqual(answers(calls), told[:-1])

    def test_whole_numbers_are_pythons_int(self):
        for calls in (MIXED, ALL_SIX):
            told = answers(row_of(calls))
            self.assertEqual({type(number) for number in told}, {int})
            self.assertIs(type(told), list)


class AnyRaceTest(unittest.TestCase):
    """What holds for any race, tried on many that are told by rote."""

    def told_of(self, game, seed):
        calls = race_by_rote(game, seed)
        return calls, all_answers(*calls)

    def assert_standing(self, game, standing):
        phase, in_hand, left = standing[3:]
        full = 15 if game == 8 else 9
        self.assertIn(phase, (0, 2, 3) if game == 8 else (0, 1, 2, 3))
        self.assertTrue(1 <= left <= full)
        if phase == 0:
            self.assertEqual((in_hand, left), (1, full))
        if phase == 3:
            self.assertEqual(in_hand, 0)

    def test_answers_have_their_form(self):
        for game in (8, 9):
            for seed in range(60):
                for answer in self.told_of(game, seed)[1]:
                    self.assertIn(len(answer), (1, 3, 7))
                    if len(answer) > 1:
                        self.assertIn(answer[0], (0, 1, 2, 3))
                    if len(answer) == 7:
                        self.assert_standing(game, answer[1:])

    def test_a_shot_with_a_lost_cue_ball_never_wins_a_rack(self):
        for game in (8, 9):
            for seed in range(60):
                calls, told = self.told_of(game, seed)
                turn = None
                for call, answer in zip(calls, told):
                    if call[0] == 2 and call[3] == 1 and answer[0] in (2, 3) and turn is not None:
                        self.assertEqual(answer[0] - 2, 1 - turn)
                    if len(answer) == 7:
                        turn = answer[3]


if __name__ == "__main__":
    unittest.main()
