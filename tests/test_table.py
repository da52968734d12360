"""Promise 3 and 'The calls': which balls are on the table."""

import unittest

from tests.helper import (DRY_BREAK, HIGHS, LOWS, MISS, PUSH, SIDE_0_ON_EIGHT, TABLE, WEAK_BREAK, begin, choose, eight,
                          last_answer, nine, shot)

FIFTEEN = list(range(1, 16))
NINE = list(range(1, 10))


def without(balls, *gone):
    """The answer of a table from which these balls are gone."""
    left = [ball for ball in balls if ball not in gone]
    return [len(left)] + left


class TableRefusalTest(unittest.TestCase):
    def test_minus_2_where_there_is_no_race(self):
        self.assertEqual(last_answer(TABLE), [-2])
        self.assertEqual(last_answer(begin(7), TABLE), [-2])
        self.assertEqual(last_answer(DRY_BREAK, choose(0), TABLE), [-2])

    def test_minus_2_where_the_race_is_over(self):
        for winning in ([shot(1, [9])], [MISS, shot(1), MISS, shot(1), MISS]):
            self.assertEqual(nine(*winning, TABLE, racks=1), [-2])
            self.assertEqual(nine(*winning, begin(9, 0), TABLE, racks=1), [-2])
        self.assertEqual(eight(*SIDE_0_ON_EIGHT, shot(8, [8], called=8), TABLE, racks=1), [-2])
        self.assertEqual(eight(DRY_BREAK, shot(1, [8]), TABLE, racks=1), [-2])

    def test_told_again_in_the_next_race(self):
        self.assertEqual(nine(shot(1, [9]), TABLE, begin(8), TABLE, racks=1), without(FIFTEEN))


class TableTest(unittest.TestCase):
    def test_all_balls_at_a_break(self):
        self.assertEqual(eight(TABLE), without(FIFTEEN))
        self.assertEqual(nine(TABLE), without(NINE))

    def test_all_balls_at_a_later_break(self):
        self.assertEqual(eight(shot(1, [1, 2]), shot(3, [8]), TABLE), without(FIFTEEN))
        self.assertEqual(eight(WEAK_BREAK, choose(1), TABLE), without(FIFTEEN))
        self.assertEqual(nine(shot(1, [1, 2]), shot(3, [9]), TABLE), without(NINE))
        self.assertEqual(nine(shot(1, [1, 2], lost=1), MISS, MISS, MISS, MISS, MISS, TABLE), without(NINE))

    def test_all_balls_where_none_was_potted(self):
        self.assertEqual(eight(DRY_BREAK, MISS, shot(9), TABLE), without(FIFTEEN))
        self.assertEqual(nine(DRY_BREAK, PUSH, TABLE), without(NINE))

    def test_without_the_potted_ones(self):
        self.assertEqual(eight(shot(1, [5, 12]), TABLE), without(FIFTEEN, 5, 12))
        self.assertEqual(eight(shot(1, [5, 12]), shot(1, [1], called=1), TABLE), without(FIFTEEN, 1, 5, 12))
        self.assertEqual(nine(shot(1, [5]), shot(1, [3]), TABLE), without(NINE, 3, 5))

    def test_without_what_a_foul_potted(self):
        self.assertEqual(eight(shot(1, [15], lost=1), TABLE), without(FIFTEEN, 15))
        self.assertEqual(nine(DRY_BREAK, shot(2, [2]), TABLE), without(NINE, 2))

    def test_without_what_a_push_potted(self):
        pushed = [DRY_BREAK, shot(5, [6, 4], push=1)]
        self.assertEqual(nine(*pushed, TABLE), without(NINE, 4, 6))
        for chosen in (0, 1):
            self.assertEqual(nine(*pushed, choose(chosen), TABLE), without(NINE, 4, 6))

    def test_rising_in_whatever_order_they_were_potted(self):
        self.assertEqual(eight(shot(1, [14, 2, 9, 3]), TABLE), without(FIFTEEN, 2, 3, 9, 14))
        self.assertEqual(eight(shot(1, [14]), shot(1, [2, 1]), shot(9, [11, 9]), TABLE),
                         [10, 3, 4, 5, 6, 7, 8, 10, 12, 13, 15])
        self.assertEqual(nine(shot(1, [8, 2, 5]), TABLE), [6, 1, 3, 4, 6, 7, 9])

    def test_the_eight_back_behind_an_eight_ball_break(self):
        self.assertEqual(eight(shot(1, [8]), TABLE), without(FIFTEEN))
        self.assertEqual(eight(shot(1, [12, 8, 3]), TABLE), without(FIFTEEN, 3, 12))
        self.assertEqual(eight(shot(1, [8, 3], lost=1), TABLE), without(FIFTEEN, 3))
        self.assertEqual(eight(shot(1, FIFTEEN), TABLE), [1, 8])

    def test_the_eight_of_nine_ball_is_a_ball_as_any(self):
        self.assertEqual(nine(shot(1, [8]), TABLE), without(NINE, 8))

    def test_the_nine_of_eight_ball_is_a_ball_as_any(self):
        self.assertEqual(eight(shot(1, [9]), TABLE), without(FIFTEEN, 9))

    def test_the_nine_back_behind_a_foul(self):
        self.assertEqual(nine(shot(1, [9, 4], lost=1), TABLE), without(NINE, 4))
        self.assertEqual(nine(DRY_BREAK, shot(2, [2, 9]), TABLE), without(NINE, 2))
        self.assertEqual(nine(DRY_BREAK, shot(1, NINE, lost=1), TABLE), [1, 9])

    def test_the_nine_back_behind_a_push(self):
        self.assertEqual(nine(DRY_BREAK, shot(1, [9, 1], push=1), TABLE), without(NINE, 1))
        self.assertEqual(nine(DRY_BREAK, shot(1, [9], push=1, lost=1), TABLE), without(NINE))

    def test_as_few_as_one(self):
        self.assertEqual(eight(DRY_BREAK, shot(1, HIGHS + LOWS), TABLE), [1, 8])
        self.assertEqual(nine(DRY_BREAK, shot(1, NINE[:8]), TABLE), [1, 9])

    def test_a_refused_shot_pots_nothing(self):
        for refused in (shot(1, [3, 3]), shot(1, [3, 16]), shot(0, [3], cushions=0), shot(1, [3], push=1)):
            self.assertEqual(eight(DRY_BREAK, refused, TABLE), without(FIFTEEN))
        self.assertEqual(eight(WEAK_BREAK, shot(1, [3]), TABLE), without(FIFTEEN))


if __name__ == "__main__":
    unittest.main()
