"""Promise 3 and 'The calls': what now tells, whenever it is asked."""

import unittest

from tests.helper import (DRY_BREAK, LOWS, MISS, NOW, PUSH, SIDE_0_IS_HIGH, SIDE_0_IS_LOW, SIDE_0_ON_EIGHT, WEAK_BREAK,
                          begin, choose, eight, last_answer, nine, shot)

# Whoever breaks nine-ball wins the rack.
WIN_BREAK = shot(1, [9])
LOST_PUSH = shot(1, lost=1, push=1)


def group(*shots, breaker=0):
    """Side 0's group in a race of eight-ball."""
    return eight(*shots, NOW, breaker=breaker)[7]


def fouls(*shots, breaker=0):
    """Both sides' fouls in a row in a race of nine-ball."""
    return nine(*shots, NOW, breaker=breaker)[8:10]


def breaker_of(answer):
    return answer[10]


def of_push(answer):
    return answer[11]


class NoRaceTest(unittest.TestCase):
    def test_no_race(self):
        self.assertEqual(last_answer(NOW), [0, 0, 0])

    def test_no_race_behind_refused_calls(self):
        for refused in (begin(7), begin(9, 31), begin(8, 1, 2), begin(8, 1, 0, -1), DRY_BREAK, choose(0), NOW):
            self.assertEqual(last_answer(refused, NOW), [0, 0, 0])

    def test_a_race_that_is_over(self):
        self.assertEqual(nine(WIN_BREAK, NOW, racks=1), [0, 1, 0])
        self.assertEqual(nine(WIN_BREAK, NOW, racks=1, breaker=1), [0, 0, 1])
        self.assertEqual(nine(MISS, shot(1), MISS, shot(1), MISS, NOW, racks=1), [0, 0, 1])
        self.assertEqual(eight(*SIDE_0_ON_EIGHT, shot(8, [8], called=8), NOW, racks=1), [0, 1, 0])
        self.assertEqual(eight(DRY_BREAK, shot(1, [8]), NOW, racks=1, breaker=1), [0, 0, 1])

    def test_a_race_that_is_over_behind_several_racks(self):
        self.assertEqual(nine(*[WIN_BREAK] * 5, NOW, racks=3), [0, 3, 2])
        self.assertEqual(nine(*[WIN_BREAK] * 5, NOW, racks=3, breaker=1), [0, 2, 3])
        self.assertEqual(nine(*[WIN_BREAK] * 30, NOW, racks=30, turns=0), [0, 30, 0])

    def test_a_race_that_is_over_stays_so_behind_refused_calls(self):
        for refused in (begin(7), DRY_BREAK, choose(0), NOW, [4], [6]):
            self.assertEqual(nine(WIN_BREAK, refused, NOW, racks=1), [0, 1, 0])


class HowItStandsTest(unittest.TestCase):
    def test_at_the_break(self):
        self.assertEqual(eight(NOW), [1, 0, 0, 0, 0, 1, 15, 0, 0, 0, 0, 0])
        self.assertEqual(eight(NOW, breaker=1), [1, 0, 0, 1, 0, 1, 15, 0, 0, 0, 1, 0])
        self.assertEqual(nine(NOW), [1, 0, 0, 0, 0, 1, 9, 0, 0, 0, 0, 0])
        self.assertEqual(nine(NOW, breaker=1), [1, 0, 0, 1, 0, 1, 9, 0, 0, 0, 1, 0])

    def test_behind_the_break_of_nine_ball(self):
        self.assertEqual(nine(DRY_BREAK, NOW), [1, 0, 0, 1, 1, 0, 9, 0, 0, 0, 0, 0])
        self.assertEqual(nine(shot(1, [3, 4]), NOW), [1, 0, 0, 0, 1, 0, 7, 0, 0, 0, 0, 0])
        self.assertEqual(nine(MISS, NOW), [1, 0, 0, 1, 1, 1, 9, 0, 1, 0, 0, 0])

    def test_in_play(self):
        self.assertEqual(eight(DRY_BREAK, NOW), [1, 0, 0, 1, 2, 0, 15, 0, 0, 0, 0, 0])
        self.assertEqual(eight(MISS, NOW), [1, 0, 0, 1, 2, 1, 15, 0, 0, 0, 0, 0])
        self.assertEqual(eight(*SIDE_0_IS_LOW, NOW), [1, 0, 0, 0, 2, 0, 13, 1, 0, 0, 0, 0])
        self.assertEqual(nine(DRY_BREAK, shot(1, [1]), NOW), [1, 0, 0, 1, 2, 0, 8, 0, 0, 0, 0, 0])
        self.assertEqual(nine(DRY_BREAK, MISS, NOW), [1, 0, 0, 0, 2, 1, 9, 0, 0, 1, 0, 0])

    def test_at_a_choice(self):
        self.assertEqual(eight(WEAK_BREAK, NOW), [1, 0, 0, 1, 3, 0, 15, 0, 0, 0, 0, 0])
        self.assertEqual(nine(MISS, PUSH, NOW), [1, 0, 0, 0, 3, 0, 9, 0, 1, 0, 0, 1])

    def test_the_racks_of_both_sides(self):
        self.assertEqual(nine(WIN_BREAK, NOW), [1, 1, 0, 1, 0, 1, 9, 0, 0, 0, 1, 0])
        self.assertEqual(nine(WIN_BREAK, DRY_BREAK, WIN_BREAK, NOW), [1, 2, 0, 0, 0, 1, 9, 0, 0, 0, 0, 0])
        self.assertEqual(eight(DRY_BREAK, shot(1, [8]), NOW, breaker=1), [1, 0, 1, 0, 0, 1, 15, 0, 0, 0, 0, 0])

    def test_a_new_race(self):
        self.assertEqual(nine(MISS, PUSH, begin(8), NOW, breaker=1), [1, 0, 0, 0, 0, 1, 15, 0, 0, 0, 0, 0])
        self.assertEqual(eight(*SIDE_0_IS_LOW, begin(9, 1, 1, 1), NOW), [1, 0, 0, 1, 0, 1, 9, 0, 0, 0, 1, 0])
        self.assertEqual(nine(WIN_BREAK, begin(9), NOW, racks=1, breaker=1), [1, 0, 0, 0, 0, 1, 9, 0, 0, 0, 0, 0])


class GroupTest(unittest.TestCase):
    def test_none_yet(self):
        self.assertEqual(group(), 0)
        self.assertEqual(group(shot(1, [1], called=1)), 0)
        self.assertEqual(group(WEAK_BREAK), 0)
        self.assertEqual(group(DRY_BREAK, shot(1, [1])), 0)
        self.assertEqual(group(DRY_BREAK, shot(1, [1], called=1, lost=1)), 0)
        self.assertEqual(group(shot(1, LOWS)), 0)

    def test_told_by_side_0(self):
        self.assertEqual(group(*SIDE_0_IS_LOW), 1)
        self.assertEqual(group(*SIDE_0_IS_HIGH), 2)

    def test_told_by_side_1(self):
        self.assertEqual(group(*SIDE_0_IS_LOW, breaker=1), 2)
        self.assertEqual(group(*SIDE_0_IS_HIGH, breaker=1), 1)
        self.assertEqual(group(DRY_BREAK, shot(1, [1], called=1)), 2)
        self.assertEqual(group(DRY_BREAK, shot(9, [9], called=9)), 1)

    def test_it_stays_whosever_turn_it_is(self):
        for behind in ([shot(3)], [MISS], [shot(3, [9], called=9)], [shot(3), shot(9, [9], called=9)]):
            self.assertEqual(group(*SIDE_0_IS_LOW, *behind), 1)
            self.assertEqual(group(*SIDE_0_IS_LOW, *behind, breaker=1), 2)
        self.assertEqual(group(*SIDE_0_ON_EIGHT), 1)

    def test_none_again_in_a_new_rack(self):
        self.assertEqual(group(*SIDE_0_IS_LOW, shot(3, [8])), 0)
        self.assertEqual(group(*SIDE_0_IS_HIGH, shot(10, [8]), breaker=1), 0)


class FoulsTest(unittest.TestCase):
    def test_none_at_first(self):
        self.assertEqual(fouls(), [0, 0])
        self.assertEqual(fouls(DRY_BREAK, shot(1), shot(1, [1])), [0, 0])

    def test_of_side_0(self):
        self.assertEqual(fouls(MISS), [1, 0])
        self.assertEqual(fouls(MISS, shot(1), shot(2)), [2, 0])

    def test_of_side_1(self):
        self.assertEqual(fouls(MISS, breaker=1), [0, 1])
        self.assertEqual(fouls(DRY_BREAK, MISS, shot(1), MISS), [0, 2])

    def test_of_both(self):
        self.assertEqual(fouls(MISS, MISS), [1, 1])
        self.assertEqual(fouls(MISS, MISS, MISS), [2, 1])
        self.assertEqual(fouls(MISS, MISS, MISS, MISS), [2, 2])

    def test_a_good_shot_ends_ones_own_row_alone(self):
        self.assertEqual(fouls(MISS, MISS, MISS, MISS, shot(1)), [0, 2])
        self.assertEqual(fouls(MISS, MISS, MISS, shot(1)), [2, 0])
        self.assertEqual(fouls(MISS, MISS, MISS, shot(1, [1])), [2, 0])

    def test_a_push_that_is_no_foul_changes_nothing(self):
        self.assertEqual(fouls(MISS, PUSH), [1, 0])
        self.assertEqual(fouls(shot(1, [2], lost=1), PUSH, choose(1)), [1, 0])
        self.assertEqual(fouls(shot(1, [2]), PUSH), [0, 0])
        self.assertEqual(fouls(shot(1, [2]), PUSH, choose(0), MISS), [0, 1])

    def test_a_push_that_is_a_foul_counts(self):
        self.assertEqual(fouls(DRY_BREAK, LOST_PUSH), [0, 1])
        self.assertEqual(fouls(MISS, LOST_PUSH), [1, 1])
        self.assertEqual(fouls(shot(1, [2]), LOST_PUSH), [1, 0])

    def test_none_in_a_new_rack(self):
        self.assertEqual(fouls(MISS, MISS, MISS, MISS, MISS), [0, 0])
        self.assertEqual(fouls(MISS, MISS, WIN_BREAK), [0, 0])
        self.assertEqual(fouls(MISS, MISS, WIN_BREAK, MISS), [0, 1])

    def test_none_in_eight_ball(self):
        for count in range(1, 8):
            self.assertEqual(eight(*[MISS] * count, NOW)[8:10], [0, 0])
        self.assertEqual(eight(*SIDE_0_IS_LOW, shot(9), NOW)[8:10], [0, 0])

    def test_a_refused_shot_is_no_foul(self):
        self.assertEqual(fouls(MISS, shot(0, cushions=1), shot(12), shot(1, [2, 2]), shot(16)), [1, 0])


class BreakerTest(unittest.TestCase):
    def test_at_the_first_rack(self):
        for breaker in (0, 1):
            for shots in ([], [DRY_BREAK], [MISS], [DRY_BREAK, shot(1)], [shot(1, [1]), shot(2, [2]), shot(3)]):
                self.assertEqual(breaker_of(nine(*shots, NOW, breaker=breaker)), breaker)
                self.assertEqual(breaker_of(eight(*shots, NOW, breaker=breaker)), breaker)

    def test_at_later_racks_by_turns(self):
        for breaker in (0, 1):
            for racks in range(6):
                for behind in ([], [DRY_BREAK], [MISS], [DRY_BREAK, PUSH]):
                    answer = nine(*[WIN_BREAK] * racks, *behind, NOW, breaker=breaker, racks=9)
                    self.assertEqual(breaker_of(answer), (breaker + racks) % 2)
                    answer = nine(*[DRY_BREAK, WIN_BREAK] * racks, *behind, NOW, breaker=breaker, racks=9)
                    self.assertEqual(breaker_of(answer), (breaker + racks) % 2)

    def test_at_later_racks_by_the_winner(self):
        for breaker in (0, 1):
            for behind in ([], [DRY_BREAK], [MISS], [DRY_BREAK, PUSH]):
                answer = nine(WIN_BREAK, WIN_BREAK, *behind, NOW, breaker=breaker, turns=0)
                self.assertEqual(breaker_of(answer), breaker)
                answer = nine(DRY_BREAK, WIN_BREAK, *behind, NOW, breaker=breaker, turns=0)
                self.assertEqual(breaker_of(answer), 1 - breaker)
            answer = eight(DRY_BREAK, shot(1, [8]), DRY_BREAK, NOW, breaker=breaker, turns=0)
            self.assertEqual(breaker_of(answer), breaker)

    def test_behind_a_new_rack_that_was_chosen(self):
        for turns in (0, 1):
            for breaker in (0, 1):
                for behind in ([], [DRY_BREAK], [WEAK_BREAK], [WEAK_BREAK, choose(0)]):
                    answer = eight(WEAK_BREAK, choose(1), *behind, NOW, breaker=breaker, turns=turns)
                    self.assertEqual(breaker_of(answer), 1 - breaker)
                answer = eight(WEAK_BREAK, choose(1), WEAK_BREAK, choose(1), NOW, breaker=breaker, turns=turns)
                self.assertEqual(breaker_of(answer), breaker)

    def test_in_the_rack_behind_one_that_was_chosen(self):
        # Side 1 broke the new rack, and wins it.
        calls = [WEAK_BREAK, choose(1), DRY_BREAK, shot(1, [8])]
        self.assertEqual(breaker_of(eight(*calls, NOW, turns=1)), 0)
        self.assertEqual(breaker_of(eight(*calls, NOW, turns=0)), 1)

    def test_at_a_choice_and_played_from_there(self):
        self.assertEqual(breaker_of(eight(WEAK_BREAK, NOW)), 0)
        self.assertEqual(breaker_of(eight(WEAK_BREAK, choose(0), NOW)), 0)
        self.assertEqual(breaker_of(nine(DRY_BREAK, PUSH, choose(0), NOW)), 0)
        self.assertEqual(breaker_of(nine(DRY_BREAK, PUSH, choose(1), NOW)), 0)


class OfPushTest(unittest.TestCase):
    def test_1_while_what_is_chosen_is_of_a_push(self):
        self.assertEqual(of_push(nine(DRY_BREAK, PUSH, NOW)), 1)
        self.assertEqual(of_push(nine(shot(1, [2]), PUSH, NOW, breaker=1)), 1)
        self.assertEqual(of_push(nine(WIN_BREAK, DRY_BREAK, PUSH, NOW)), 1)

    def test_1_still_behind_refused_calls(self):
        for refused in (choose(2), shot(1), shot(16), begin(7)):
            self.assertEqual(of_push(nine(DRY_BREAK, PUSH, refused, NOW)), 1)

    def test_0_behind_a_choice_of_a_push(self):
        for chosen in (0, 1):
            chose = [DRY_BREAK, PUSH, choose(chosen)]
            for behind in ([], [shot(1)], [MISS], [shot(1, [1])], [WIN_BREAK], [WIN_BREAK, DRY_BREAK]):
                self.assertEqual(of_push(nine(*chose, *behind, NOW)), 0)

    def test_0_at_a_choice_behind_an_eight_ball_break(self):
        self.assertEqual(of_push(eight(WEAK_BREAK, NOW)), 0)
        self.assertEqual(of_push(eight(WEAK_BREAK, choose(1), WEAK_BREAK, NOW)), 0)
        self.assertEqual(of_push(last_answer(begin(9), DRY_BREAK, PUSH, begin(8), WEAK_BREAK, NOW)), 0)

    def test_0_behind_a_choice_of_eight_ball(self):
        for chosen in (0, 1):
            self.assertEqual(of_push(eight(WEAK_BREAK, choose(chosen), NOW)), 0)

    def test_0_where_nobody_is_to_choose(self):
        self.assertEqual(of_push(nine(NOW)), 0)
        self.assertEqual(of_push(nine(DRY_BREAK, NOW)), 0)
        self.assertEqual(of_push(nine(DRY_BREAK, LOST_PUSH, NOW)), 0)
        self.assertEqual(of_push(nine(DRY_BREAK, shot(1), NOW)), 0)


if __name__ == "__main__":
    unittest.main()
