"""on, now and table change nothing, and agree with each other and with what is answered to shots and choices."""

import unittest

from tests.helper import (DRY_BREAK, MISS, NOW, ON, PUSH, SIDE_0_IS_LOW, SIDE_0_ON_EIGHT, TABLE, WEAK_BREAK,
                          all_answers, begin, choose, last_answer, race_by_rote, shot)

LOOKS = [ON, NOW, TABLE]
# With three looks behind each call, these make a list of 248 calls at the most.
ROUNDS = 30
SEEDS = range(25)


def looked_at(calls):
    """The calls, with all three looks behind each of them."""
    return [call for told in calls for call in [told] + LOOKS]


class NothingChangesTest(unittest.TestCase):
    def assert_unchanged(self, *calls):
        looks = LOOKS + looked_at(calls)
        with self.subTest(calls=calls):
            self.assertEqual(all_answers(*looks)[len(LOOKS)::4], all_answers(*calls))

    def test_where_they_are_answered(self):
        self.assert_unchanged(begin(8), DRY_BREAK, shot(1, [1], called=1), shot(2, [9], called=9), shot(9, lost=1))
        self.assert_unchanged(begin(8), *SIDE_0_IS_LOW, shot(3), shot(9), shot(3, [8]), DRY_BREAK)
        self.assert_unchanged(begin(8), *SIDE_0_ON_EIGHT, shot(8, [8], called=8), DRY_BREAK)
        self.assert_unchanged(begin(9), MISS, MISS, MISS, MISS, MISS, shot(1, [1, 2]), shot(3, [9]))

    def test_where_somebody_is_to_choose(self):
        for chosen in (0, 1):
            self.assert_unchanged(begin(8), WEAK_BREAK, choose(chosen), shot(1, [1], called=1), shot(2))
            self.assert_unchanged(begin(9), DRY_BREAK, PUSH, choose(chosen), shot(1, [1]), shot(2))

    def test_where_a_push_may_be(self):
        self.assert_unchanged(begin(9), shot(1, [2]), PUSH, choose(0), PUSH)

    def test_where_they_are_refused(self):
        self.assert_unchanged(DRY_BREAK, begin(7), choose(0), begin(9, 1), shot(1, [9]), DRY_BREAK, choose(1),
                              begin(10), begin(8, 1), DRY_BREAK, shot(1, [8]), shot(1), begin(9), MISS)

    def test_the_same_look_twice(self):
        for calls in ([], [begin(8)], [begin(8), *SIDE_0_IS_LOW], [begin(9), MISS, PUSH], [begin(9, 1), shot(1, [9])]):
            for look in LOOKS:
                told = all_answers(*calls, look, look, look)
                self.assertEqual(told[-1], told[-3])
                self.assertEqual(told[-2], told[-3])

    def test_in_any_race(self):
        for game in (8, 9):
            for seed in SEEDS:
                self.assert_unchanged(*race_by_rote(game, seed, ROUNDS))


class AgreeTest(unittest.TestCase):
    """Tried on many races that are told by rote."""

    def test_now_tells_how_it_stands_as_the_last_shot_or_choice_did(self):
        for game in (8, 9):
            for seed in SEEDS:
                told = all_answers(*looked_at(race_by_rote(game, seed, ROUNDS)))
                standing = told[2][1:7]
                for answer, now in zip(told[::4], told[2::4]):
                    standing = answer[1:] if len(answer) == 7 else standing
                    self.assertEqual(now[1:7], standing)
                    self.assertEqual((len(now), now[0]), (12, 1))

    def test_now_tells_one_of_a_push_at_a_choice_of_nine_ball_alone(self):
        for game in (8, 9):
            for seed in SEEDS:
                for now in all_answers(*looked_at(race_by_rote(game, seed, ROUNDS)))[2::4]:
                    self.assertEqual(now[11], int(game == 9 and now[4] == 3))

    def test_table_has_as_many_balls_as_now_tells_rising(self):
        for game in (8, 9):
            for seed in SEEDS:
                told = all_answers(*looked_at(race_by_rote(game, seed, ROUNDS)))
                for now, table in zip(told[2::4], told[3::4]):
                    self.assertEqual((table[0], len(table)), (now[6], now[6] + 1))
                    self.assertEqual(table[1:], sorted(set(table[1:])))
                    self.assertIn(game, table[1:])

    def test_on_tells_balls_of_the_table_rising_and_always_one(self):
        for game in (8, 9):
            for seed in SEEDS:
                told = all_answers(*looked_at(race_by_rote(game, seed, ROUNDS)))
                for on, table in zip(told[1::4], told[3::4]):
                    self.assertEqual(on[0], len(on) - 1)
                    self.assertGreater(on[0], 0)
                    self.assertEqual(on[1:], [ball for ball in table[1:] if ball in on[1:]])

    def test_a_shot_at_a_ball_is_a_foul_if_on_does_not_tell_it_and_refused_if_table_does_not(self):
        for game in (8, 9):
            for seed in range(6):
                calls = race_by_rote(game, seed, ROUNDS)
                for end in range(1, len(calls), 4):
                    self.assert_agree(calls[:end])

    def assert_agree(self, calls):
        on, now, table = all_answers(*calls, *LOOKS)[-3:]
        if now[4] == 3:
            return
        for ball in range(1, 16):
            answer = last_answer(*calls, shot(ball, cushions=4))
            with self.subTest(calls=calls, ball=ball):
                self.assertEqual(answer == [-4], ball not in table[1:])
                if answer != [-4]:
                    self.assertEqual(answer[0] == 0, ball in on[1:])


if __name__ == "__main__":
    unittest.main()
