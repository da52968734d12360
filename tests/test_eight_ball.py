"""Promise 2, eight-ball: what a shot is, and how it stands behind it."""

import unittest

from tests.helper import (BREAK_POTS_1, DRY_BREAK, HIGHS, LOWS, MISS, SIDE_0_IS_HIGH, SIDE_0_IS_LOW, SIDE_0_ON_EIGHT,
                          WEAK_BREAK, choose, eight, shot)


class EightBreakTest(unittest.TestCase):
    def test_plays_on_if_something_was_potted(self):
        self.assertEqual(eight(shot(1, [5])), [0, 0, 0, 0, 2, 0, 14])
        self.assertEqual(eight(shot(1, [5, 12], cushions=0)), [0, 0, 0, 0, 2, 0, 13])
        self.assertEqual(eight(shot(1, [12]), breaker=1), [0, 0, 0, 1, 2, 0, 14])

    def test_any_ball_may_be_hit_first(self):
        for ball in range(1, 16):
            with self.subTest(ball=ball):
                self.assertEqual(eight(shot(ball, [5])), [0, 0, 0, 0, 2, 0, 14])

    def test_the_eight_potted_comes_back_and_counts_as_potted(self):
        self.assertEqual(eight(shot(1, [8], cushions=0)), [0, 0, 0, 0, 2, 0, 15])
        self.assertEqual(eight(shot(8, [8], called=8)), [0, 0, 0, 0, 2, 0, 15])
        self.assertEqual(eight(shot(1, [8, 3])), [0, 0, 0, 0, 2, 0, 14])
        self.assertEqual(eight(shot(1, [8]), shot(1, [8])), [3, 0, 1, 1, 0, 1, 15])

    def test_the_eight_potted_with_a_foul_comes_back(self):
        self.assertEqual(eight(shot(1, [8], lost=1)), [1, 0, 0, 1, 2, 1, 15])
        self.assertEqual(eight(shot(1, [8, 2, 9], lost=1, called=8)), [1, 0, 0, 1, 2, 1, 13])

    def test_nothing_potted_and_3_cushions_gives_a_choice(self):
        for cushions in (1, 2, 3):
            self.assertEqual(eight(shot(1, cushions=cushions)), [0, 0, 0, 1, 3, 0, 15])
        self.assertEqual(eight(WEAK_BREAK, breaker=1), [0, 0, 0, 0, 3, 0, 15])

    def test_nothing_potted_and_4_cushions_is_the_others_turn(self):
        for cushions in (4, 5, 15):
            self.assertEqual(eight(shot(1, cushions=cushions)), [0, 0, 0, 1, 2, 0, 15])
        self.assertEqual(eight(DRY_BREAK, breaker=1), [0, 0, 0, 0, 2, 0, 15])

    def test_a_lost_cue_ball_is_a_foul(self):
        self.assertEqual(eight(shot(1, cushions=4, lost=1)), [1, 0, 0, 1, 2, 1, 15])
        self.assertEqual(eight(shot(1, cushions=3, lost=1)), [1, 0, 0, 1, 2, 1, 15])
        self.assertEqual(eight(shot(1, [1, 2], lost=1), breaker=1), [1, 0, 0, 0, 2, 1, 13])

    def test_no_ball_hit_is_a_foul(self):
        self.assertEqual(eight(MISS), [1, 0, 0, 1, 2, 1, 15])

    def test_nothing_potted_and_no_cushion_is_a_foul(self):
        self.assertEqual(eight(shot(1, cushions=0)), [1, 0, 0, 1, 2, 1, 15])

    def test_the_table_is_not_divided_by_a_break(self):
        # Side 0 broke, called and potted a low, and then takes the highs.
        calls = [shot(1, [1], called=1), shot(9, [9], called=9), shot(10, [10], called=10)]
        self.assertEqual(eight(*calls), [0, 0, 0, 0, 2, 0, 12])

    def test_the_shot_behind_a_break_foul_is_play(self):
        self.assertEqual(eight(MISS, shot(1, [1], called=1)), [0, 0, 0, 1, 2, 0, 14])


class EightFoulTest(unittest.TestCase):
    def test_a_lost_cue_ball(self):
        self.assertEqual(eight(DRY_BREAK, shot(1, lost=1)), [1, 0, 0, 0, 2, 1, 15])
        self.assertEqual(eight(DRY_BREAK, shot(1, [1], called=1, lost=1)), [1, 0, 0, 0, 2, 1, 14])

    def test_no_ball_hit(self):
        self.assertEqual(eight(DRY_BREAK, MISS), [1, 0, 0, 0, 2, 1, 15])
        self.assertEqual(eight(DRY_BREAK, shot(0, cushions=0, lost=1)), [1, 0, 0, 0, 2, 1, 15])

    def test_nothing_potted_and_no_cushion(self):
        self.assertEqual(eight(DRY_BREAK, shot(1, cushions=0)), [1, 0, 0, 0, 2, 1, 15])
        self.assertEqual(eight(DRY_BREAK, shot(1, cushions=1)), [0, 0, 0, 0, 2, 0, 15])
        self.assertEqual(eight(DRY_BREAK, shot(1, [3], cushions=0)), [0, 0, 0, 0, 2, 0, 14])

    def test_the_eight_first_on_an_undivided_table(self):
        self.assertEqual(eight(DRY_BREAK, shot(8)), [1, 0, 0, 0, 2, 1, 15])
        for ball in LOWS + HIGHS:
            self.assertEqual(eight(DRY_BREAK, shot(ball)), [0, 0, 0, 0, 2, 0, 15])

    def test_one_of_the_others_group_first(self):
        for ball in HIGHS + [8]:
            self.assertEqual(eight(*SIDE_0_IS_LOW, shot(ball)), [1, 0, 0, 1, 2, 1, 13])
        for ball in LOWS[2:]:
            self.assertEqual(eight(*SIDE_0_IS_LOW, shot(ball)), [0, 0, 0, 1, 2, 0, 13])
        for ball in LOWS[1:] + [8]:
            self.assertEqual(eight(*SIDE_0_IS_HIGH, shot(ball)), [1, 0, 0, 1, 2, 1, 13])
        for ball in HIGHS[1:]:
            self.assertEqual(eight(*SIDE_0_IS_HIGH, shot(ball)), [0, 0, 0, 1, 2, 0, 13])

    def test_another_ball_first_where_the_eight_is_to_be_hit(self):
        for ball in HIGHS:
            self.assertEqual(eight(*SIDE_0_ON_EIGHT, shot(ball)), [1, 0, 0, 1, 2, 1, 8])
        self.assertEqual(eight(*SIDE_0_ON_EIGHT, shot(8)), [0, 0, 0, 1, 2, 0, 8])

    def test_what_a_foul_pots_stays_off_the_table(self):
        calls = [DRY_BREAK, shot(1, [1, 9], lost=1)]
        self.assertEqual(eight(*calls), [1, 0, 0, 0, 2, 1, 13])
        self.assertEqual(eight(*calls, shot(9)), [-4])

    def test_fouls_in_a_row_are_not_counted(self):
        self.assertEqual(eight(*[MISS] * 9), [1, 0, 0, 1, 2, 1, 15])

    def test_the_ball_in_hand_ends_with_the_next_shot(self):
        self.assertEqual(eight(DRY_BREAK, MISS, shot(1)), [0, 0, 0, 1, 2, 0, 15])
        self.assertEqual(eight(DRY_BREAK, MISS, shot(1, [1], called=1)), [0, 0, 0, 0, 2, 0, 14])


class GroupTest(unittest.TestCase):
    def test_the_ball_called_and_potted_gives_its_group(self):
        self.assertEqual(eight(*SIDE_0_IS_LOW), [0, 0, 0, 0, 2, 0, 13])
        self.assertEqual(eight(*SIDE_0_IS_LOW, shot(3, [3], called=3)), [0, 0, 0, 0, 2, 0, 12])
        self.assertEqual(eight(*SIDE_0_IS_HIGH), [0, 0, 0, 0, 2, 0, 13])
        self.assertEqual(eight(*SIDE_0_IS_HIGH, shot(10, [10], called=10)), [0, 0, 0, 0, 2, 0, 12])

    def test_the_ball_hit_first_gives_no_group(self):
        calls = [DRY_BREAK, shot(1, [9], called=9)]
        self.assertEqual(eight(*calls), [0, 0, 0, 1, 2, 0, 14])
        self.assertEqual(eight(*calls, shot(1)), [1, 0, 0, 0, 2, 1, 14])
        self.assertEqual(eight(*calls, shot(10)), [0, 0, 0, 0, 2, 0, 14])

    def test_each_ball_gives_the_group_it_is_of(self):
        for ball, own, other in [(1, 4, 12), (7, 4, 12), (9, 12, 4), (15, 12, 4)]:
            calls = [DRY_BREAK, shot(2, [ball], called=ball)]
            self.assertEqual(eight(*calls, shot(own)), [0, 0, 0, 0, 2, 0, 14])
            self.assertEqual(eight(*calls, shot(other)), [1, 0, 0, 0, 2, 1, 14])

    def test_the_other_side_has_the_other_group(self):
        self.assertEqual(eight(*SIDE_0_IS_LOW, shot(3), shot(9)), [0, 0, 0, 0, 2, 0, 13])
        self.assertEqual(eight(*SIDE_0_IS_LOW, shot(3), shot(4)), [1, 0, 0, 0, 2, 1, 13])
        self.assertEqual(eight(*SIDE_0_IS_HIGH, shot(10), shot(3)), [0, 0, 0, 0, 2, 0, 13])
        self.assertEqual(eight(*SIDE_0_IS_HIGH, shot(10), shot(11)), [1, 0, 0, 0, 2, 1, 13])

    def test_a_group_once_told_stays(self):
        # Side 0, low, calls and pots a high: its turn ends, and the groups are what they were.
        calls = [*SIDE_0_IS_LOW, shot(3, [9], called=9)]
        self.assertEqual(eight(*calls), [0, 0, 0, 1, 2, 0, 12])
        self.assertEqual(eight(*calls, shot(10, [10], called=10)), [0, 0, 0, 1, 2, 0, 11])
        self.assertEqual(eight(*calls, shot(10), shot(10)), [1, 0, 0, 1, 2, 1, 12])
        self.assertEqual(eight(*calls, shot(10), shot(4)), [0, 0, 0, 1, 2, 0, 12])

    def test_a_group_stays_behind_a_foul(self):
        calls = [*SIDE_0_IS_LOW, shot(3, [9], called=9, lost=1)]
        self.assertEqual(eight(*calls, shot(3)), [1, 0, 0, 0, 2, 1, 12])

    def test_a_ball_potted_but_not_called_gives_no_group(self):
        for called in (0, 8, 3):
            calls = [DRY_BREAK, shot(1, [1], called=called)]
            self.assertEqual(eight(*calls), [0, 0, 0, 0, 2, 0, 14])
            self.assertEqual(eight(*calls, shot(9, [9], called=9)), [0, 0, 0, 0, 2, 0, 13])
            self.assertEqual(eight(*calls, shot(2, [2], called=2)), [0, 0, 0, 0, 2, 0, 13])

    def test_a_foul_gives_no_group(self):
        calls = [DRY_BREAK, shot(1, [1], called=1, lost=1)]
        self.assertEqual(eight(*calls, shot(2, [2], called=2)), [0, 0, 0, 0, 2, 0, 13])
        self.assertEqual(eight(*calls, shot(2), shot(9)), [0, 0, 0, 0, 2, 0, 14])

    def test_one_called_among_several_potted_tells(self):
        calls = [DRY_BREAK, shot(1, [1, 2, 9], called=9)]
        self.assertEqual(eight(*calls), [0, 0, 0, 1, 2, 0, 12])
        self.assertEqual(eight(*calls, shot(10)), [0, 0, 0, 0, 2, 0, 12])

    def test_groups_end_with_the_rack(self):
        lost = [*SIDE_0_IS_LOW, shot(3, [8])]
        self.assertEqual(eight(*lost), [3, 0, 1, 1, 0, 1, 15])
        self.assertEqual(eight(*lost, DRY_BREAK, shot(9, [9], called=9)), [0, 0, 1, 0, 2, 0, 14])


class PlayingOnTest(unittest.TestCase):
    def test_a_ball_of_ones_own_group_called_and_potted(self):
        self.assertEqual(eight(*SIDE_0_IS_LOW, shot(3, [4], called=4)), [0, 0, 0, 0, 2, 0, 12])
        self.assertEqual(eight(*SIDE_0_IS_LOW, shot(3, [4, 9], called=4)), [0, 0, 0, 0, 2, 0, 11])

    def test_a_ball_of_the_others_group_called_and_potted(self):
        self.assertEqual(eight(*SIDE_0_IS_LOW, shot(3, [9], called=9)), [0, 0, 0, 1, 2, 0, 12])
        self.assertEqual(eight(*SIDE_0_IS_LOW, shot(3, [4, 9], called=9)), [0, 0, 0, 1, 2, 0, 11])

    def test_no_ball_called(self):
        self.assertEqual(eight(*SIDE_0_IS_LOW, shot(3, [3])), [0, 0, 0, 1, 2, 0, 12])
        self.assertEqual(eight(*SIDE_0_IS_LOW, shot(3)), [0, 0, 0, 1, 2, 0, 13])

    def test_the_ball_called_is_not_the_one_potted(self):
        self.assertEqual(eight(*SIDE_0_IS_LOW, shot(3, [3], called=4)), [0, 0, 0, 1, 2, 0, 12])
        self.assertEqual(eight(*SIDE_0_IS_LOW, shot(3, called=3)), [0, 0, 0, 1, 2, 0, 13])
        self.assertEqual(eight(*SIDE_0_IS_LOW, shot(3, [3], called=8)), [0, 0, 0, 1, 2, 0, 12])

    def test_on_the_eight_a_ball_of_the_others_group_called_and_potted(self):
        self.assertEqual(eight(*SIDE_0_ON_EIGHT, shot(8, [9], called=9)), [0, 0, 0, 1, 2, 0, 7])


class TheEightTest(unittest.TestCase):
    def test_won_by_the_eight_called_and_potted(self):
        self.assertEqual(eight(*SIDE_0_ON_EIGHT, shot(8, [8], called=8)), [2, 1, 0, 1, 0, 1, 15])
        self.assertEqual(eight(*SIDE_0_ON_EIGHT, shot(8, [8, 9], called=8)), [2, 1, 0, 1, 0, 1, 15])
        self.assertEqual(eight(*SIDE_0_ON_EIGHT, shot(8, [8], called=8, cushions=0)), [2, 1, 0, 1, 0, 1, 15])

    def test_won_by_side_1(self):
        calls = [DRY_BREAK, shot(9, HIGHS, called=9), shot(8, [8], called=8)]
        self.assertEqual(eight(*calls), [3, 0, 1, 1, 0, 1, 15])

    def test_lost_by_a_foul(self):
        self.assertEqual(eight(*SIDE_0_ON_EIGHT, shot(8, [8], called=8, lost=1)), [3, 0, 1, 1, 0, 1, 15])
        self.assertEqual(eight(*SIDE_0_ON_EIGHT, shot(9, [8], called=8)), [3, 0, 1, 1, 0, 1, 15])

    def test_lost_by_the_eight_not_called(self):
        for called in (0, 9):
            self.assertEqual(eight(*SIDE_0_ON_EIGHT, shot(8, [8], called=called)), [3, 0, 1, 1, 0, 1, 15])
        self.assertEqual(eight(*SIDE_0_ON_EIGHT, shot(8, [8, 9], called=9)), [3, 0, 1, 1, 0, 1, 15])

    def test_lost_by_the_eight_too_early(self):
        self.assertEqual(eight(*SIDE_0_IS_LOW, shot(3, [8], called=8)), [3, 0, 1, 1, 0, 1, 15])
        self.assertEqual(eight(*SIDE_0_IS_LOW, shot(8, [8], called=8)), [3, 0, 1, 1, 0, 1, 15])
        self.assertEqual(eight(DRY_BREAK, shot(1, [8], called=8)), [2, 1, 0, 1, 0, 1, 15])
        self.assertEqual(eight(DRY_BREAK, shot(8, [8], called=8)), [2, 1, 0, 1, 0, 1, 15])

    def test_lost_by_the_eight_along_with_the_last_of_ones_group(self):
        calls = [BREAK_POTS_1, shot(2, LOWS[1:6], called=2)]
        self.assertEqual(eight(*calls, shot(7, [7, 8], called=8)), [3, 0, 1, 1, 0, 1, 15])
        self.assertEqual(eight(*calls, shot(7, [7, 8], called=7)), [3, 0, 1, 1, 0, 1, 15])

    def test_the_other_side_has_none_left_by_ones_own_shot(self):
        # Side 0, low, pots the last highs: it is side 1 that is to play the eight then.
        calls = [BREAK_POTS_1, shot(2, [2] + HIGHS, called=2), shot(3)]
        self.assertEqual(eight(*calls, shot(8, [8], called=8)), [3, 0, 1, 1, 0, 1, 15])
        self.assertEqual(eight(*calls, shot(3)), [1, 0, 0, 0, 2, 1, 6])

    def test_the_last_of_ones_group_potted_by_the_other_side(self):
        calls = [*SIDE_0_IS_LOW, shot(3), shot(9, LOWS[2:], called=0)]
        self.assertEqual(eight(*calls), [0, 0, 0, 0, 2, 0, 8])
        self.assertEqual(eight(*calls, shot(8, [8], called=8)), [2, 1, 0, 1, 0, 1, 15])

    def test_ones_whole_group_gone_by_the_shot_that_tells_it(self):
        calls = [DRY_BREAK, shot(1, LOWS, called=1)]
        self.assertEqual(eight(*calls), [0, 0, 0, 1, 2, 0, 8])
        self.assertEqual(eight(*calls, shot(8, [8], called=8)), [3, 0, 1, 1, 0, 1, 15])

    def test_an_undivided_table_with_nothing_but_the_eight(self):
        calls = [DRY_BREAK, shot(1, LOWS + HIGHS)]
        self.assertEqual(eight(*calls), [0, 0, 0, 0, 2, 0, 1])
        self.assertEqual(eight(*calls, shot(8)), [0, 0, 0, 1, 2, 0, 1])
        self.assertEqual(eight(*calls, shot(8, [8], called=8)), [2, 1, 0, 1, 0, 1, 15])
        self.assertEqual(eight(*calls, shot(8, [8])), [3, 0, 1, 1, 0, 1, 15])
        self.assertEqual(eight(*calls, shot(8, [8], called=8, lost=1)), [3, 0, 1, 1, 0, 1, 15])

    def test_an_undivided_table_with_one_more_ball_than_the_eight(self):
        calls = [DRY_BREAK, shot(1, LOWS + HIGHS[1:])]
        self.assertEqual(eight(*calls, shot(8)), [1, 0, 0, 1, 2, 1, 2])
        self.assertEqual(eight(*calls, shot(9)), [0, 0, 0, 1, 2, 0, 2])
        self.assertEqual(eight(*calls, shot(8, [8], called=8)), [3, 0, 1, 1, 0, 1, 15])

    def test_behind_a_choice_the_eight_is_lost_as_in_play(self):
        self.assertEqual(eight(WEAK_BREAK, choose(0), shot(1, [8], called=8)), [2, 1, 0, 1, 0, 1, 15])


if __name__ == "__main__":
    unittest.main()
