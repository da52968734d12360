"""Promise 3 and 'The right ball first': which balls on tells."""

import unittest

from tests.helper import (BREAK_POTS_1, DRY_BREAK, HIGHS, LOWS, MISS, ON, PUSH, SIDE_0_IS_HIGH, SIDE_0_IS_LOW,
                          SIDE_0_ON_EIGHT, WEAK_BREAK, begin, choose, eight, last_answer, nine, shot)

ALL_BALLS = LOWS + [8] + HIGHS


class OnTest(unittest.TestCase):
    def assert_on_of_eight(self, shots, balls):
        with self.subTest(shots=shots):
            self.assertEqual(eight(*shots, ON), [len(balls)] + balls)
            self.assertEqual(eight(*shots, ON, breaker=1), [len(balls)] + balls)

    def assert_on_of_nine(self, shots, ball):
        with self.subTest(shots=shots):
            self.assertEqual(nine(*shots, ON), [1, ball])
            self.assertEqual(nine(*shots, ON, breaker=1), [1, ball])


class OnRefusalTest(unittest.TestCase):
    def test_minus_2_where_there_is_no_race(self):
        self.assertEqual(last_answer(ON), [-2])
        self.assertEqual(last_answer(begin(7), ON), [-2])
        self.assertEqual(last_answer(DRY_BREAK, choose(0), ON), [-2])

    def test_minus_2_where_the_race_is_over(self):
        for winning in ([shot(1, [9])], [MISS, shot(1), MISS, shot(1), MISS]):
            self.assertEqual(nine(*winning, ON, racks=1), [-2])
            self.assertEqual(nine(*winning, begin(9, 0), ON, racks=1), [-2])
        self.assertEqual(eight(*SIDE_0_ON_EIGHT, shot(8, [8], called=8), ON, racks=1), [-2])
        self.assertEqual(eight(DRY_BREAK, shot(1, [8]), ON, racks=1), [-2])

    def test_told_again_in_the_next_race(self):
        self.assertEqual(nine(shot(1, [9]), ON, begin(9), ON, racks=1), [1, 1])

    def test_told_while_the_race_goes_on(self):
        self.assertEqual(nine(shot(1, [9]), ON, racks=2), [1, 1])


class OnOfEightTest(OnTest):
    def test_any_at_the_break(self):
        self.assert_on_of_eight([], ALL_BALLS)

    def test_any_at_later_breaks(self):
        self.assert_on_of_eight([WEAK_BREAK, choose(1)], ALL_BALLS)
        self.assert_on_of_eight([*SIDE_0_IS_LOW, shot(3, [8])], ALL_BALLS)

    def test_any_but_the_eight_on_an_open_table(self):
        self.assert_on_of_eight([DRY_BREAK], LOWS + HIGHS)
        self.assert_on_of_eight([MISS], LOWS + HIGHS)
        self.assert_on_of_eight([shot(1, [8])], LOWS + HIGHS)
        self.assert_on_of_eight([BREAK_POTS_1], LOWS[1:] + HIGHS)
        # A break gives no group, whatever it called.
        self.assert_on_of_eight([shot(2, [1], called=1)], LOWS[1:] + HIGHS)

    def test_an_open_table_without_one_group(self):
        self.assert_on_of_eight([shot(1, LOWS)], HIGHS)
        self.assert_on_of_eight([shot(9, HIGHS)], LOWS)

    def test_any_but_the_eight_while_somebody_is_to_choose(self):
        self.assert_on_of_eight([WEAK_BREAK], LOWS + HIGHS)
        self.assert_on_of_eight([shot(8, cushions=2)], LOWS + HIGHS)
        self.assert_on_of_eight([WEAK_BREAK, choose(0)], LOWS + HIGHS)

    def test_the_group_of_the_side_that_shoots(self):
        self.assert_on_of_eight(SIDE_0_IS_LOW, LOWS[2:])
        self.assert_on_of_eight(SIDE_0_IS_HIGH, HIGHS[1:])

    def test_the_other_group_for_the_other_side(self):
        self.assert_on_of_eight([*SIDE_0_IS_LOW, shot(3)], HIGHS)
        self.assert_on_of_eight([*SIDE_0_IS_LOW, MISS], HIGHS)
        self.assert_on_of_eight([*SIDE_0_IS_HIGH, shot(10)], LOWS[1:])
        self.assert_on_of_eight([*SIDE_0_IS_HIGH, shot(10), shot(2)], HIGHS[1:])

    def test_the_eight_for_a_side_that_has_none_of_its_group_left(self):
        self.assert_on_of_eight(SIDE_0_ON_EIGHT, [8])
        self.assert_on_of_eight([DRY_BREAK, shot(9, HIGHS, called=9)], [8])
        # The other side potted the last of them.
        self.assert_on_of_eight([*SIDE_0_IS_LOW, shot(3), shot(9, LOWS[2:])], [8])

    def test_its_group_for_the_other_side_of_one_that_has_none_left(self):
        self.assert_on_of_eight([*SIDE_0_ON_EIGHT, shot(8)], HIGHS)
        self.assert_on_of_eight([*SIDE_0_ON_EIGHT, shot(8, [9])], HIGHS[1:])

    def test_the_eight_where_both_groups_are_gone(self):
        self.assert_on_of_eight([*SIDE_0_ON_EIGHT, shot(8, HIGHS)], [8])
        self.assert_on_of_eight([*SIDE_0_ON_EIGHT, shot(8, HIGHS), MISS], [8])

    def test_one_ball_left_of_the_group(self):
        self.assert_on_of_eight([BREAK_POTS_1, shot(2, LOWS[1:6], called=2)], [7])

    def test_the_eight_on_an_open_table_where_nothing_else_is_left(self):
        self.assert_on_of_eight([DRY_BREAK, shot(1, LOWS + HIGHS)], [8])
        self.assert_on_of_eight([shot(1, ALL_BALLS)], [8])
        self.assert_on_of_eight([shot(1, ALL_BALLS), MISS], [8])

    def test_one_ball_and_the_eight_on_an_open_table(self):
        self.assert_on_of_eight([DRY_BREAK, shot(1, LOWS + HIGHS[1:])], [9])
        self.assert_on_of_eight([shot(1, LOWS[:6] + HIGHS)], [7])


class OnOfNineTest(OnTest):
    def test_the_one_at_the_break(self):
        self.assert_on_of_nine([], 1)
        self.assert_on_of_nine([shot(1, [1, 2]), shot(3, [9])], 1)

    def test_the_lowest_behind_the_break(self):
        self.assert_on_of_nine([DRY_BREAK], 1)
        self.assert_on_of_nine([MISS], 1)
        self.assert_on_of_nine([shot(1, [1, 2, 4])], 3)
        self.assert_on_of_nine([shot(1, [9, 1], lost=1)], 2)

    def test_the_lowest_later(self):
        self.assert_on_of_nine([DRY_BREAK, shot(1)], 1)
        self.assert_on_of_nine([DRY_BREAK, shot(1, [1])], 2)
        self.assert_on_of_nine([DRY_BREAK, shot(1, [4, 1, 2]), shot(3, [3])], 5)

    def test_the_nine_where_it_alone_is_left(self):
        self.assert_on_of_nine([shot(1, list(range(1, 9)))], 9)
        self.assert_on_of_nine([DRY_BREAK, shot(1, list(range(1, 9)))], 9)
        # Potted by a foul, it comes back.
        self.assert_on_of_nine([DRY_BREAK, shot(1, list(range(1, 10)), lost=1)], 9)

    def test_the_lowest_while_somebody_is_to_choose(self):
        self.assert_on_of_nine([DRY_BREAK, PUSH], 1)
        self.assert_on_of_nine([shot(1, [1]), shot(5, [2, 4, 9], push=1)], 3)

    def test_the_lowest_behind_a_choice(self):
        for chosen in (0, 1):
            self.assert_on_of_nine([shot(1, [1]), shot(5, [2], push=1), choose(chosen)], 3)


if __name__ == "__main__":
    unittest.main()
