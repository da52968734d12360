"""Promise 2 and 'The calls': racks, the race, and how it stands."""

import unittest

from tests.helper import DRY_BREAK, MISS, PUSH, WEAK_BREAK, all_answers, begin, choose, eight, last_answer, nine, shot

# Whoever breaks wins the rack.
WIN_BREAK = shot(1, [9])


def winners_and_breakers(*calls):
    """Of each rack won: who won it, and who is to break the next one."""
    return [(answer[0] - 2, answer[3]) for answer in all_answers(*calls) if answer[0] in (2, 3)]


class RackTest(unittest.TestCase):
    def test_by_turns_the_other_side_breaks(self):
        for breaker in (0, 1):
            other = 1 - breaker
            # Each breaker wins, so the winner never breaks the next rack.
            calls = [begin(9, 9, 1, breaker)] + [WIN_BREAK] * 4
            self.assertEqual(winners_and_breakers(*calls),
                             [(breaker, other), (other, breaker), (breaker, other), (other, breaker)])

    def test_by_turns_it_does_not_matter_who_won(self):
        for breaker in (0, 1):
            other = 1 - breaker
            calls = [begin(9, 9, 1, breaker)] + [DRY_BREAK, WIN_BREAK] * 3
            self.assertEqual(winners_and_breakers(*calls), [(other, other), (breaker, breaker), (other, other)])

    def test_the_winner_breaks_if_not_by_turns(self):
        for breaker in (0, 1):
            other = 1 - breaker
            calls = [begin(9, 9, 0, breaker)] + [WIN_BREAK, WIN_BREAK, DRY_BREAK, WIN_BREAK, WIN_BREAK]
            self.assertEqual(winners_and_breakers(*calls),
                             [(breaker, breaker), (breaker, breaker), (other, other), (other, other)])

    def test_who_breaks_behind_a_rack_of_eight_ball(self):
        too_early = [DRY_BREAK, shot(1, [8])]
        self.assertEqual(eight(*too_early, turns=1), [2, 1, 0, 1, 0, 1, 15])
        self.assertEqual(eight(*too_early, turns=0), [2, 1, 0, 0, 0, 1, 15])
        self.assertEqual(eight(*too_early, turns=1, breaker=1), [3, 0, 1, 0, 0, 1, 15])
        self.assertEqual(eight(*too_early, turns=0, breaker=1), [3, 0, 1, 1, 0, 1, 15])

    def test_who_breaks_behind_three_fouls(self):
        calls = [MISS, shot(1), MISS, shot(1), MISS]
        self.assertEqual(nine(*calls, turns=0), [3, 0, 1, 1, 0, 1, 9])
        self.assertEqual(nine(*calls, turns=0, breaker=1), [2, 1, 0, 0, 0, 1, 9])

    def test_a_new_rack_has_all_balls_again(self):
        calls = [shot(1, [1, 2, 3]), shot(4, [9])]
        self.assertEqual(nine(*calls), [2, 1, 0, 1, 0, 1, 9])
        self.assertEqual(nine(*calls, shot(1, [2])), [0, 1, 0, 1, 1, 0, 8])

    def test_racks_are_counted_for_both_sides(self):
        calls = [begin(9, 3, 1, 0)] + [WIN_BREAK] * 4
        self.assertEqual([answer[1:3] for answer in all_answers(*calls)[1:]], [[1, 0], [1, 1], [2, 1], [2, 2]])


class RaceTest(unittest.TestCase):
    def test_over_with_the_last_rack(self):
        self.assertEqual(nine(WIN_BREAK, racks=1), [2, 1, 0])
        self.assertEqual(nine(WIN_BREAK, racks=1, breaker=1), [3, 0, 1])
        self.assertEqual(eight(DRY_BREAK, shot(1, [8]), racks=1), [2, 1, 0])
        self.assertEqual(eight(MISS, MISS, shot(1, [8]), racks=1), [3, 0, 1])

    def test_over_by_three_fouls(self):
        self.assertEqual(nine(MISS, shot(1), MISS, shot(1), MISS, racks=1), [3, 0, 1])

    def test_goes_on_till_one_side_has_all_its_racks(self):
        calls = [begin(9, 3, 1, 0)] + [WIN_BREAK] * 5 + [WIN_BREAK]
        self.assertEqual(all_answers(*calls)[4:], [[3, 2, 2, 0, 0, 1, 9], [2, 3, 2], [-2]])

    def test_a_race_to_30(self):
        for breaker in (0, 1):
            calls = [begin(9, 30, 0, breaker)] + [WIN_BREAK] * 29
            racks = [0, 0]
            racks[breaker] = 29
            self.assertEqual(last_answer(*calls), [2 + breaker] + racks + [breaker, 0, 1, 9])
            racks[breaker] = 30
            self.assertEqual(last_answer(*calls, WIN_BREAK), [2 + breaker] + racks)
            self.assertEqual(last_answer(*calls, WIN_BREAK, WIN_BREAK), [-2])


class StandingTest(unittest.TestCase):
    def test_at_the_break(self):
        self.assertEqual(nine(WIN_BREAK), [2, 1, 0, 1, 0, 1, 9])
        self.assertEqual(eight(WEAK_BREAK, choose(1)), [1, 0, 0, 1, 0, 1, 15])

    def test_behind_the_break_of_nine_ball(self):
        self.assertEqual(nine(shot(1, [2])), [0, 0, 0, 0, 1, 0, 8])
        self.assertEqual(nine(DRY_BREAK), [0, 0, 0, 1, 1, 0, 9])
        self.assertEqual(nine(MISS), [1, 0, 0, 1, 1, 1, 9])

    def test_in_play(self):
        self.assertEqual(eight(shot(1, [2])), [0, 0, 0, 0, 2, 0, 14])
        self.assertEqual(nine(DRY_BREAK, shot(1)), [0, 0, 0, 0, 2, 0, 9])
        self.assertEqual(nine(DRY_BREAK, MISS), [1, 0, 0, 0, 2, 1, 9])

    def test_in_a_choice_nobody_has_the_ball_in_hand(self):
        self.assertEqual(eight(WEAK_BREAK), [0, 0, 0, 1, 3, 0, 15])
        self.assertEqual(nine(MISS, PUSH), [0, 0, 0, 0, 3, 0, 9])

    def test_behind_a_choice_it_is_not_in_hand_but_for_a_break(self):
        self.assertEqual(eight(WEAK_BREAK, choose(0)), [0, 0, 0, 1, 2, 0, 15])
        self.assertEqual(eight(WEAK_BREAK, choose(1)), [1, 0, 0, 1, 0, 1, 15])
        self.assertEqual(nine(MISS, PUSH, choose(0)), [0, 0, 0, 0, 2, 0, 9])
        self.assertEqual(nine(MISS, PUSH, choose(1)), [1, 0, 0, 1, 2, 0, 9])

    def test_the_ball_in_hand_is_used_up_by_a_good_shot(self):
        self.assertEqual(nine(MISS, shot(1, [1])), [0, 0, 0, 1, 2, 0, 8])
        self.assertEqual(nine(MISS, shot(1)), [0, 0, 0, 0, 2, 0, 9])
        self.assertEqual(nine(DRY_BREAK, MISS, shot(1, [1])), [0, 0, 0, 0, 2, 0, 8])

    def test_the_racks_of_both_sides_stand_ahead(self):
        calls = [WIN_BREAK, DRY_BREAK, WIN_BREAK, WIN_BREAK, DRY_BREAK]
        self.assertEqual(nine(*calls, racks=9, turns=0), [0, 1, 2, 0, 1, 0, 9])


if __name__ == "__main__":
    unittest.main()
