"""Promise 2, nine-ball: what a shot is, and how it stands behind it."""

import unittest

from tests.helper import DRY_BREAK, MISS, PUSH, choose, nine, shot

LOST_PUSH = shot(1, lost=1, push=1)


class NineBreakTest(unittest.TestCase):
    def test_the_one_is_to_be_hit_first(self):
        self.assertEqual(nine(shot(1, [5])), [0, 0, 0, 0, 1, 0, 8])
        for ball in range(2, 10):
            self.assertEqual(nine(shot(ball, [5])), [1, 0, 0, 1, 1, 1, 8])

    def test_nothing_potted_and_3_cushions_is_a_foul(self):
        for cushions in (0, 1, 2, 3):
            self.assertEqual(nine(shot(1, cushions=cushions)), [1, 0, 0, 1, 1, 1, 9])
        self.assertEqual(nine(shot(1, cushions=3), breaker=1), [1, 0, 0, 0, 1, 1, 9])

    def test_nothing_potted_and_4_cushions_is_none(self):
        for cushions in (4, 5, 15):
            self.assertEqual(nine(shot(1, cushions=cushions)), [0, 0, 0, 1, 1, 0, 9])
        self.assertEqual(nine(DRY_BREAK, breaker=1), [0, 0, 0, 0, 1, 0, 9])

    def test_something_potted_with_few_cushions_is_none(self):
        self.assertEqual(nine(shot(1, [2], cushions=0)), [0, 0, 0, 0, 1, 0, 8])

    def test_a_lost_cue_ball_and_no_ball_hit_are_fouls(self):
        self.assertEqual(nine(shot(1, [2, 3], lost=1)), [1, 0, 0, 1, 1, 1, 7])
        self.assertEqual(nine(shot(1, cushions=4, lost=1)), [1, 0, 0, 1, 1, 1, 9])
        self.assertEqual(nine(MISS), [1, 0, 0, 1, 1, 1, 9])

    def test_the_nine_wins_at_the_break(self):
        self.assertEqual(nine(shot(1, [9])), [2, 1, 0, 1, 0, 1, 9])
        self.assertEqual(nine(shot(1, [9, 4], cushions=0), breaker=1), [3, 0, 1, 0, 0, 1, 9])

    def test_the_nine_comes_back_behind_a_foul_at_the_break(self):
        self.assertEqual(nine(shot(1, [9], lost=1)), [1, 0, 0, 1, 1, 1, 9])
        self.assertEqual(nine(shot(2, [9, 4])), [1, 0, 0, 1, 1, 1, 8])


class NinePlayTest(unittest.TestCase):
    def test_the_lowest_ball_is_to_be_hit_first(self):
        self.assertEqual(nine(DRY_BREAK, shot(1)), [0, 0, 0, 0, 2, 0, 9])
        for ball in range(2, 10):
            self.assertEqual(nine(DRY_BREAK, shot(ball)), [1, 0, 0, 0, 2, 1, 9])

    def test_the_lowest_ball_is_the_lowest_that_is_left(self):
        calls = [shot(1, [1, 2, 4])]
        self.assertEqual(nine(*calls, shot(3)), [0, 0, 0, 1, 2, 0, 6])
        self.assertEqual(nine(*calls, shot(5)), [1, 0, 0, 1, 2, 1, 6])
        self.assertEqual(nine(shot(1, list(range(1, 9))), shot(9)), [0, 0, 0, 1, 2, 0, 1])
        self.assertEqual(nine(shot(1, list(range(1, 9))), shot(9, [9])), [2, 1, 0, 1, 0, 1, 9])

    def test_who_pots_something_plays_on(self):
        self.assertEqual(nine(DRY_BREAK, shot(1, [1])), [0, 0, 0, 1, 2, 0, 8])
        self.assertEqual(nine(DRY_BREAK, shot(1, [7], cushions=0)), [0, 0, 0, 1, 2, 0, 8])
        self.assertEqual(nine(DRY_BREAK, shot(1, [1]), shot(2, [3])), [0, 0, 0, 1, 2, 0, 7])

    def test_called_balls_do_not_matter(self):
        for called in range(0, 10):
            self.assertEqual(nine(DRY_BREAK, shot(1, [1], called=called)), [0, 0, 0, 1, 2, 0, 8])
            self.assertEqual(nine(DRY_BREAK, shot(1, [9], called=called)), [3, 0, 1, 1, 0, 1, 9])

    def test_the_fouls(self):
        self.assertEqual(nine(DRY_BREAK, shot(1, [1], lost=1)), [1, 0, 0, 0, 2, 1, 8])
        self.assertEqual(nine(DRY_BREAK, MISS), [1, 0, 0, 0, 2, 1, 9])
        self.assertEqual(nine(DRY_BREAK, shot(1, cushions=0)), [1, 0, 0, 0, 2, 1, 9])
        self.assertEqual(nine(DRY_BREAK, shot(2, [2])), [1, 0, 0, 0, 2, 1, 8])

    def test_few_cushions_are_no_foul_behind_the_break(self):
        for cushions in (1, 2, 3):
            self.assertEqual(nine(DRY_BREAK, shot(1, cushions=cushions)), [0, 0, 0, 0, 2, 0, 9])

    def test_the_nine_wins_without_a_foul(self):
        self.assertEqual(nine(DRY_BREAK, shot(1, [9])), [3, 0, 1, 1, 0, 1, 9])
        self.assertEqual(nine(DRY_BREAK, shot(1), shot(1, [2, 9])), [2, 1, 0, 1, 0, 1, 9])

    def test_the_nine_comes_back_behind_a_foul(self):
        self.assertEqual(nine(DRY_BREAK, shot(1, [9], lost=1)), [1, 0, 0, 0, 2, 1, 9])
        self.assertEqual(nine(DRY_BREAK, shot(2, [2, 9])), [1, 0, 0, 0, 2, 1, 8])
        self.assertEqual(nine(DRY_BREAK, shot(2, [2, 9]), shot(1, [9])), [2, 1, 0, 1, 0, 1, 9])

    def test_no_choice_and_no_second_phase_1_come_of_play(self):
        self.assertEqual(nine(MISS, MISS), [1, 0, 0, 0, 2, 1, 9])
        self.assertEqual(nine(shot(1, [1]), shot(2, [2])), [0, 0, 0, 0, 2, 0, 7])


class PushTest(unittest.TestCase):
    def test_a_push_gives_the_other_side_a_choice(self):
        self.assertEqual(nine(DRY_BREAK, PUSH), [0, 0, 0, 0, 3, 0, 9])
        self.assertEqual(nine(DRY_BREAK, PUSH, breaker=1), [0, 0, 0, 1, 3, 0, 9])

    def test_whoever_plays_behind_the_break_may_push(self):
        self.assertEqual(nine(shot(1, [3]), PUSH), [0, 0, 0, 1, 3, 0, 8])
        self.assertEqual(nine(MISS, PUSH), [0, 0, 0, 0, 3, 0, 9])

    def test_only_a_lost_cue_ball_is_a_foul_of_a_push(self):
        for call in (shot(5, push=1), shot(9, push=1), shot(0, cushions=0, push=1), shot(1, cushions=0, push=1)):
            self.assertEqual(nine(DRY_BREAK, call), [0, 0, 0, 0, 3, 0, 9])

    def test_a_push_with_a_lost_cue_ball_is_a_foul(self):
        self.assertEqual(nine(DRY_BREAK, LOST_PUSH), [1, 0, 0, 0, 2, 1, 9])
        self.assertEqual(nine(DRY_BREAK, shot(0, cushions=0, lost=1, push=1)), [1, 0, 0, 0, 2, 1, 9])
        self.assertEqual(nine(DRY_BREAK, shot(1, [1, 9], lost=1, push=1)), [1, 0, 0, 0, 2, 1, 8])

    def test_what_a_push_pots_stays_off_the_table(self):
        calls = [DRY_BREAK, shot(1, [1, 5], push=1)]
        self.assertEqual(nine(*calls), [0, 0, 0, 0, 3, 0, 7])
        self.assertEqual(nine(*calls, choose(0), shot(5)), [-4])
        self.assertEqual(nine(*calls, choose(0), shot(2)), [0, 0, 0, 1, 2, 0, 7])

    def test_the_nine_potted_by_a_push_comes_back(self):
        calls = [DRY_BREAK, shot(1, [9], push=1)]
        self.assertEqual(nine(*calls), [0, 0, 0, 0, 3, 0, 9])
        self.assertEqual(nine(*calls, choose(0), shot(1, [9])), [2, 1, 0, 1, 0, 1, 9])

    def test_a_push_may_be_told_again_in_the_next_rack(self):
        self.assertEqual(nine(DRY_BREAK, PUSH, choose(0), shot(1, [9]), DRY_BREAK, PUSH), [0, 1, 0, 1, 3, 0, 9])


class ThreeFoulsTest(unittest.TestCase):
    def test_the_third_in_a_row_loses_the_rack(self):
        calls = [MISS, shot(1), MISS, shot(1)]
        self.assertEqual(nine(*calls), [0, 0, 0, 0, 2, 0, 9])
        self.assertEqual(nine(*calls, MISS), [3, 0, 1, 1, 0, 1, 9])
        self.assertEqual(nine(*calls, MISS, breaker=1), [2, 1, 0, 0, 0, 1, 9])

    def test_two_in_a_row_do_not(self):
        self.assertEqual(nine(MISS, shot(1), MISS), [1, 0, 0, 1, 2, 1, 9])

    def test_each_side_has_a_count_of_its_own(self):
        self.assertEqual(nine(MISS, MISS, MISS, MISS), [1, 0, 0, 0, 2, 1, 9])
        self.assertEqual(nine(MISS, MISS, MISS, MISS, MISS), [3, 0, 1, 1, 0, 1, 9])
        self.assertEqual(nine(MISS, MISS, MISS, MISS, shot(1), MISS), [2, 1, 0, 1, 0, 1, 9])

    def test_each_kind_of_foul_counts(self):
        for foul in (MISS, shot(2), shot(1, cushions=0), shot(1, lost=1), shot(2, [9]), shot(1, [1], lost=1)):
            with self.subTest(foul=foul):
                self.assertEqual(nine(MISS, shot(1), MISS, shot(1), foul), [3, 0, 1, 1, 0, 1, 9])
        self.assertEqual(nine(shot(1, cushions=3), shot(1), MISS, shot(1), MISS), [3, 0, 1, 1, 0, 1, 9])

    def test_a_third_foul_never_wins_by_the_nine(self):
        self.assertEqual(nine(MISS, shot(1), MISS, shot(1), shot(1, [9], lost=1)), [3, 0, 1, 1, 0, 1, 9])

    def test_a_good_shot_ends_the_row(self):
        calls = [MISS, shot(1), MISS, shot(1)]
        self.assertEqual(nine(*calls, shot(1), shot(1), MISS), [1, 0, 0, 1, 2, 1, 9])
        self.assertEqual(nine(*calls, shot(1, [1]), MISS), [1, 0, 0, 1, 2, 1, 8])
        self.assertEqual(nine(*calls, shot(1), shot(1), MISS, shot(1), MISS), [1, 0, 0, 1, 2, 1, 9])
        more = [shot(1), shot(1), MISS, shot(1), MISS, shot(1), MISS]
        self.assertEqual(nine(*calls, *more), [3, 0, 1, 1, 0, 1, 9])

    def test_the_others_good_shot_ends_no_row(self):
        self.assertEqual(nine(MISS, shot(1, [1]), shot(2), MISS, shot(2, [2]), shot(3), MISS), [3, 0, 1, 1, 0, 1, 9])

    def test_a_push_leaves_the_others_row_as_it_is(self):
        # Side 0 fouls at the break, side 1 pushes, side 0 takes the table as it is and fouls twice more.
        calls = [MISS, PUSH, choose(0), MISS, shot(1)]
        self.assertEqual(nine(*calls), [0, 0, 0, 0, 2, 0, 9])
        self.assertEqual(nine(*calls, MISS), [3, 0, 1, 1, 0, 1, 9])

    def test_a_push_adds_nothing_to_the_pushers_row(self):
        for push in (PUSH, shot(5, push=1), shot(0, cushions=0, push=1)):
            calls = [DRY_BREAK, push, choose(0), shot(1), MISS, shot(1), MISS]
            self.assertEqual(nine(*calls), [1, 0, 0, 0, 2, 1, 9])
            self.assertEqual(nine(*calls, shot(1), MISS), [2, 1, 0, 1, 0, 1, 9])

    def test_a_push_with_a_lost_cue_ball_counts(self):
        calls = [DRY_BREAK, LOST_PUSH, shot(1), MISS, shot(1)]
        self.assertEqual(nine(*calls), [0, 0, 0, 1, 2, 0, 9])
        self.assertEqual(nine(*calls, MISS), [2, 1, 0, 1, 0, 1, 9])

    def test_the_rows_end_with_the_rack(self):
        # Side 0 has two fouls in a row, then loses the rack by the nine; its next foul is the first.
        calls = [MISS, shot(1), MISS, shot(1, [9]), DRY_BREAK, MISS]
        self.assertEqual(nine(*calls), [1, 0, 1, 1, 2, 1, 9])


if __name__ == "__main__":
    unittest.main()
