"""Promise 2: which shots are refused, and by which number."""

import unittest

from tests.helper import DRY_BREAK, LEAST, MISS, MOST, PUSH, WEAK_BREAK, all_answers, begin, choose, last_answer, shot

ALL_BALLS = list(range(1, 16))
# A race in each place where a shot may come.
IN_PLAY = [begin(8), DRY_BREAK]
AT_BREAK = [begin(8)]
NINE_AT_BREAK = [begin(9)]
NINE_BEHIND_BREAK = [begin(9), DRY_BREAK]
NINE_IN_PLAY = [begin(9), DRY_BREAK, shot(1)]
NO_RACE = []
OVER = [begin(9, 1), shot(1, [9])]
EIGHT_CHOICE = [begin(8), WEAK_BREAK]
PUSH_CHOICE = [begin(9), DRY_BREAK, PUSH]

OUT_OF_RANGE = [
    shot(-1), shot(16), shot(LEAST), shot(MOST),
    shot(1, cushions=-1), shot(1, cushions=16), shot(1, cushions=LEAST), shot(1, cushions=MOST),
    shot(1, lost=-1), shot(1, lost=2), shot(1, lost=LEAST), shot(1, lost=MOST),
    shot(1, called=-1), shot(1, called=16), shot(1, called=LEAST), shot(1, called=MOST),
    shot(1, push=-1), shot(1, push=2), shot(1, push=LEAST), shot(1, push=MOST),
    shot(1, [0]), shot(1, [16]), shot(1, [-1]), shot(1, [LEAST]), shot(1, [MOST]),
    shot(1, [2, 3, 0]), shot(1, [2, 16, 3]), shot(1, list(range(16))), shot(1, list(range(1, 17))), shot(1, [MOST] * 16),
]


class ShotRefusalTest(unittest.TestCase):
    def assert_answer(self, before, call, answer):
        with self.subTest(before=before, call=call):
            self.assertEqual(last_answer(*before, call), answer)

    def assert_unchanged(self, before, refused, behind):
        """The shot behind is answered as if the refused ones had not been told."""
        for call in refused:
            with self.subTest(before=before, call=call):
                self.assertEqual(last_answer(*before, call, behind), last_answer(*before, behind))

    def test_minus_1_for_numbers_out_of_range(self):
        for before in (AT_BREAK, IN_PLAY, NINE_AT_BREAK, NINE_BEHIND_BREAK, NINE_IN_PLAY):
            for call in OUT_OF_RANGE:
                self.assert_answer(before, call, [-1])

    def test_minus_1_is_told_ahead_of_all_others(self):
        for before in (NO_RACE, OVER, EIGHT_CHOICE, PUSH_CHOICE):
            for call in OUT_OF_RANGE:
                self.assert_answer(before, call, [-1])
        self.assert_answer(NINE_IN_PLAY, shot(15, [3, 3], cushions=16), [-1])
        self.assert_answer(IN_PLAY, shot(0, cushions=16), [-1])
        self.assert_answer(IN_PLAY, shot(0, [1, 1, 16]), [-1])

    def test_the_numbers_at_the_bounds_are_taken(self):
        self.assert_answer(AT_BREAK, shot(15, cushions=15), [0, 0, 0, 1, 2, 0, 15])
        self.assert_answer(AT_BREAK, shot(1, [1, 15], cushions=0, called=15), [0, 0, 0, 0, 2, 0, 13])
        self.assert_answer(AT_BREAK, shot(0, cushions=0), [1, 0, 0, 1, 2, 1, 15])
        self.assert_answer(NINE_AT_BREAK, shot(1, cushions=15, called=9), [0, 0, 0, 1, 1, 0, 9])

    def test_minus_2_where_there_is_no_race(self):
        for call in (DRY_BREAK, MISS, shot(1, [1]), shot(8, [8], called=8)):
            self.assert_answer(NO_RACE, call, [-2])

    def test_minus_2_where_the_race_is_over(self):
        for call in (DRY_BREAK, MISS, shot(1, [1]), shot(9, [9])):
            self.assert_answer(OVER, call, [-2])
        self.assert_answer([begin(8, 1), DRY_BREAK, shot(1, [8])], DRY_BREAK, [-2])

    def test_minus_2_is_told_ahead_of_what_comes_behind_it(self):
        for before in (NO_RACE, OVER):
            for call in (shot(15), shot(1, [2, 2]), shot(1, push=1), shot(0, cushions=3), shot(0, [1])):
                self.assert_answer(before, call, [-2])

    def test_minus_3_where_somebody_is_to_choose(self):
        for before in (EIGHT_CHOICE, PUSH_CHOICE):
            for call in (shot(1), MISS, shot(1, [1])):
                self.assert_answer(before, call, [-3])

    def test_minus_3_is_told_ahead_of_what_comes_behind_it(self):
        for before in (EIGHT_CHOICE, PUSH_CHOICE):
            for call in (shot(1, [2, 2]), shot(1, push=1), shot(0, cushions=3), shot(0, [1])):
                self.assert_answer(before, call, [-3])
        self.assert_answer(PUSH_CHOICE, shot(15), [-3])

    def test_minus_4_for_balls_that_are_not_on_the_table(self):
        gone = [begin(8), shot(1, [3, 12])]
        for call in (shot(3), shot(12), shot(1, called=3), shot(1, called=12), shot(1, [3]), shot(1, [1, 2, 12])):
            self.assert_answer(gone, call, [-4])

    def test_minus_4_for_balls_that_nine_ball_has_not(self):
        for before in (NINE_AT_BREAK, NINE_BEHIND_BREAK, NINE_IN_PLAY):
            for ball in (10, 11, 15):
                for call in (shot(ball), shot(1, called=ball), shot(1, [ball])):
                    self.assert_answer(before, call, [-4])

    def test_minus_4_for_a_ball_that_is_potted_twice(self):
        for potted in ([2, 2], [2, 3, 2], [8, 8], [15, 14, 15], ALL_BALLS + [15], ALL_BALLS + [1], [7] * 16):
            self.assert_answer(AT_BREAK, shot(1, potted), [-4])
            self.assert_answer(IN_PLAY, shot(1, potted), [-4])
        self.assert_answer(NINE_AT_BREAK, shot(1, [9, 9]), [-4])

    def test_minus_4_is_told_ahead_of_minus_5(self):
        self.assert_answer(AT_BREAK, shot(1, [2, 2], push=1), [-4])
        self.assert_answer(AT_BREAK, shot(0, [2, 2]), [-4])
        self.assert_answer(NINE_AT_BREAK, shot(10, push=1), [-4])
        self.assert_answer(NINE_AT_BREAK, shot(0, called=10), [-4])
        self.assert_answer(NINE_BEHIND_BREAK, shot(0, [10], push=1), [-4])

    def test_minus_5_for_a_push_that_may_not_be(self):
        for before in (AT_BREAK, IN_PLAY, NINE_AT_BREAK, NINE_IN_PLAY):
            for call in (PUSH, shot(1, lost=1, push=1), shot(1, [2], push=1), shot(0, cushions=0, push=1)):
                self.assert_answer(before, call, [-5])

    def test_minus_5_for_a_push_behind_a_push(self):
        for chosen in (0, 1):
            self.assert_answer(PUSH_CHOICE + [choose(chosen)], PUSH, [-5])
        self.assert_answer(NINE_BEHIND_BREAK + [shot(1, lost=1, push=1)], PUSH, [-5])

    def test_minus_5_for_what_moved_with_no_ball_hit(self):
        for before in (AT_BREAK, IN_PLAY, NINE_AT_BREAK, NINE_BEHIND_BREAK, NINE_IN_PLAY):
            calls = [shot(0, cushions=1), shot(0, cushions=15), shot(0, [1], cushions=0), shot(0, [1, 2], cushions=2)]
            for call in calls + [shot(0, cushions=1, lost=1), shot(0, [1], cushions=0, lost=1)]:
                self.assert_answer(before, call, [-5])

    def test_minus_5_for_what_moved_with_no_ball_hit_by_a_push(self):
        for call in (shot(0, cushions=1, push=1), shot(0, [1], cushions=0, push=1)):
            self.assert_answer(NINE_BEHIND_BREAK, call, [-5])

    def test_potted_lists_of_0_of_15_and_of_16(self):
        self.assert_answer(AT_BREAK, shot(1, [], cushions=4), [0, 0, 0, 1, 2, 0, 15])
        self.assert_answer(AT_BREAK, shot(1, ALL_BALLS), [0, 0, 0, 0, 2, 0, 1])
        self.assert_answer(IN_PLAY, shot(1, ALL_BALLS), [2, 1, 0, 1, 0, 1, 15])
        self.assert_answer(AT_BREAK, shot(1, [1] + ALL_BALLS), [-4])
        self.assert_answer(NINE_AT_BREAK, shot(1, ALL_BALLS), [-4])

    def test_nothing_is_changed_by_a_refusal(self):
        twice = shot(1, [2, 2])
        self.assert_unchanged(AT_BREAK, OUT_OF_RANGE + [twice, PUSH, shot(0, [2])], shot(1, [1]))
        self.assert_unchanged(IN_PLAY, OUT_OF_RANGE + [twice, PUSH, shot(0, [2])], shot(2, [2], called=2))
        self.assert_unchanged(NINE_BEHIND_BREAK, OUT_OF_RANGE + [twice, shot(10), shot(0, [2], push=1)], PUSH)
        self.assert_unchanged(NINE_IN_PLAY, OUT_OF_RANGE + [twice, shot(10), PUSH, shot(0, [2])], shot(1, [9]))
        self.assert_unchanged(EIGHT_CHOICE, OUT_OF_RANGE + [shot(1, [3])], choose(1))
        self.assert_unchanged(PUSH_CHOICE, OUT_OF_RANGE + [shot(1, [3])], choose(1))

    def test_a_refused_shot_counts_as_no_foul(self):
        calls = [begin(9), MISS, shot(1), MISS, shot(1), shot(0, cushions=1), shot(0, [1]), shot(1, [16]), MISS]
        self.assertEqual(last_answer(*calls), [3, 0, 1, 1, 0, 1, 9])

    def test_a_refused_shot_ends_no_row_of_fouls_and_takes_no_push_away(self):
        calls = [begin(9), DRY_BREAK, shot(1, [1, 1]), shot(12), PUSH]
        self.assertEqual(all_answers(*calls)[2:], [[-4], [-4], [0, 0, 0, 0, 3, 0, 9]])


if __name__ == "__main__":
    unittest.main()
