"""Promise 3: what may be chosen, by whom, and what comes of it."""

import unittest

from tests.helper import (DRY_BREAK, LEAST, MISS, MOST, PUSH, WEAK_BREAK, all_answers, begin, choose, eight,
                          last_answer, nine, shot)

WRONG = (LEAST, -2, -1, 2, 3, MOST)


class ChooseRefusalTest(unittest.TestCase):
    def test_minus_1_for_what_is_not_0_or_1(self):
        befores = [[], [begin(8)], [begin(8), DRY_BREAK], [begin(8), WEAK_BREAK], [begin(9), DRY_BREAK, PUSH],
                   [begin(9, 1), shot(1, [9])]]
        for before in befores:
            for chosen in WRONG:
                with self.subTest(before=before, chosen=chosen):
                    self.assertEqual(last_answer(*before, choose(chosen)), [-1])

    def test_minus_2_where_there_is_no_race(self):
        for chosen in (0, 1):
            self.assertEqual(last_answer(choose(chosen)), [-2])
            self.assertEqual(last_answer(begin(7), choose(chosen)), [-2])

    def test_minus_2_where_the_race_is_over(self):
        for chosen in (0, 1):
            self.assertEqual(nine(shot(1, [9]), choose(chosen), racks=1), [-2])
            # Here a choice was waiting ahead of the shot that ended the race.
            self.assertEqual(nine(DRY_BREAK, PUSH, choose(0), shot(1, [9]), choose(chosen), racks=1), [-2])

    def test_minus_3_where_nobody_is_to_choose(self):
        for chosen in (0, 1):
            self.assertEqual(last_answer(begin(8), choose(chosen)), [-3])
            self.assertEqual(last_answer(begin(9), choose(chosen)), [-3])
            self.assertEqual(eight(DRY_BREAK, choose(chosen)), [-3])
            self.assertEqual(nine(DRY_BREAK, choose(chosen)), [-3])
            self.assertEqual(nine(shot(1, cushions=3), choose(chosen)), [-3])
            self.assertEqual(nine(DRY_BREAK, shot(1), choose(chosen)), [-3])
            self.assertEqual(eight(shot(1, cushions=3, lost=1), choose(chosen)), [-3])

    def test_minus_3_where_it_is_chosen_already(self):
        for chosen in (0, 1):
            self.assertEqual(eight(WEAK_BREAK, choose(chosen), choose(0)), [-3])
            self.assertEqual(nine(DRY_BREAK, PUSH, choose(chosen), choose(1)), [-3])

    def test_nothing_is_changed_by_a_refusal(self):
        for wrong in WRONG:
            self.assertEqual(eight(WEAK_BREAK, choose(wrong), choose(0)), [0, 0, 0, 1, 2, 0, 15])
            self.assertEqual(nine(DRY_BREAK, PUSH, choose(wrong), choose(1)), [1, 0, 0, 1, 2, 0, 9])
        self.assertEqual(eight(DRY_BREAK, choose(1), shot(1, [1], called=1)), [0, 0, 0, 1, 2, 0, 14])
        self.assertEqual(nine(DRY_BREAK, choose(0), PUSH), [0, 0, 0, 0, 3, 0, 9])


class EightChoiceTest(unittest.TestCase):
    def test_0_plays_from_there(self):
        self.assertEqual(eight(WEAK_BREAK, choose(0)), [0, 0, 0, 1, 2, 0, 15])
        self.assertEqual(eight(WEAK_BREAK, choose(0), breaker=1), [0, 0, 0, 0, 2, 0, 15])
        self.assertEqual(eight(WEAK_BREAK, choose(0), shot(9, [9], called=9)), [0, 0, 0, 1, 2, 0, 14])

    def test_1_breaks_a_new_rack(self):
        self.assertEqual(eight(WEAK_BREAK, choose(1)), [1, 0, 0, 1, 0, 1, 15])
        self.assertEqual(eight(WEAK_BREAK, choose(1), breaker=1), [1, 0, 0, 0, 0, 1, 15])
        self.assertEqual(eight(WEAK_BREAK, choose(1), shot(8, [8])), [0, 0, 0, 1, 2, 0, 15])

    def test_a_choice_may_come_of_the_new_break_too(self):
        self.assertEqual(eight(WEAK_BREAK, choose(1), WEAK_BREAK), [0, 0, 0, 0, 3, 0, 15])
        self.assertEqual(eight(WEAK_BREAK, choose(1), WEAK_BREAK, choose(1)), [1, 0, 0, 0, 0, 1, 15])

    def test_by_turns_the_next_break_is_the_others_of_who_broke_last(self):
        # Side 1 broke the new rack last; whoever wins it, side 0 breaks the rack behind.
        new_rack = [WEAK_BREAK, choose(1), DRY_BREAK]
        self.assertEqual(eight(*new_rack, shot(1, [8])), [3, 0, 1, 0, 0, 1, 15])
        self.assertEqual(eight(*new_rack, shot(1), shot(1, [8])), [2, 1, 0, 0, 0, 1, 15])
        self.assertEqual(eight(*new_rack, shot(1, [8]), breaker=1), [2, 1, 0, 1, 0, 1, 15])

    def test_by_turns_played_from_there_the_first_break_counts(self):
        played = [WEAK_BREAK, choose(0)]
        self.assertEqual(eight(*played, shot(1, [8])), [2, 1, 0, 1, 0, 1, 15])
        self.assertEqual(eight(*played, shot(1), shot(1, [8])), [3, 0, 1, 1, 0, 1, 15])

    def test_by_winners_the_new_rack_changes_nothing(self):
        new_rack = [WEAK_BREAK, choose(1), DRY_BREAK]
        self.assertEqual(eight(*new_rack, shot(1, [8]), turns=0), [3, 0, 1, 1, 0, 1, 15])
        self.assertEqual(eight(*new_rack, shot(1), shot(1, [8]), turns=0), [2, 1, 0, 0, 0, 1, 15])

    def test_a_new_rack_leaves_the_racks_won(self):
        calls = [begin(8, 2, 1, 0), DRY_BREAK, shot(1, [8]), WEAK_BREAK, choose(1)]
        self.assertEqual(all_answers(*calls)[2:], [[2, 1, 0, 1, 0, 1, 15], [0, 1, 0, 0, 3, 0, 15],
                                                   [1, 1, 0, 0, 0, 1, 15]])


class PushChoiceTest(unittest.TestCase):
    def test_0_plays_from_there(self):
        self.assertEqual(nine(DRY_BREAK, PUSH, choose(0)), [0, 0, 0, 0, 2, 0, 9])
        self.assertEqual(nine(DRY_BREAK, PUSH, choose(0), breaker=1), [0, 0, 0, 1, 2, 0, 9])

    def test_1_has_whoever_pushed_play_on(self):
        self.assertEqual(nine(DRY_BREAK, PUSH, choose(1)), [1, 0, 0, 1, 2, 0, 9])
        self.assertEqual(nine(DRY_BREAK, PUSH, choose(1), breaker=1), [1, 0, 0, 0, 2, 0, 9])
        self.assertEqual(nine(shot(1, [4]), PUSH, choose(1)), [1, 0, 0, 0, 2, 0, 8])

    def test_the_balls_stay_as_they_are(self):
        calls = [shot(1, [4]), shot(1, [1, 9], push=1)]
        self.assertEqual(nine(*calls, choose(0)), [0, 0, 0, 1, 2, 0, 7])
        self.assertEqual(nine(*calls, choose(1), shot(2, [2])), [0, 0, 0, 0, 2, 0, 6])

    def test_the_breaker_stays_the_breaker(self):
        calls = [DRY_BREAK, PUSH, choose(1), shot(1, [9])]
        self.assertEqual(nine(*calls), [3, 0, 1, 1, 0, 1, 9])
        self.assertEqual(nine(*calls, breaker=1), [2, 1, 0, 0, 0, 1, 9])

    def test_rows_of_fouls_stay_as_they_are(self):
        calls = [MISS, PUSH, choose(1), shot(1), MISS, shot(1)]
        self.assertEqual(nine(*calls), [0, 0, 0, 0, 2, 0, 9])
        self.assertEqual(nine(*calls, MISS), [3, 0, 1, 1, 0, 1, 9])

    def test_a_choice_of_eight_ball_is_none_of_a_push(self):
        calls = [begin(9), DRY_BREAK, PUSH, begin(8), WEAK_BREAK, choose(1)]
        self.assertEqual(last_answer(*calls), [1, 0, 0, 1, 0, 1, 15])


if __name__ == "__main__":
    unittest.main()
