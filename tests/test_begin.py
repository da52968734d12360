"""Promise 1: which races may begin."""

import unittest

from tests.helper import DRY_BREAK, LEAST, MISS, MOST, all_answers, begin, choose, last_answer, nine, shot


class BeginTest(unittest.TestCase):
    def test_answers_0_for_what_may_be(self):
        for game in (8, 9):
            for racks in (1, 2, 15, 29, 30):
                for turns in (0, 1):
                    for breaker in (0, 1):
                        call = begin(game, racks, turns, breaker)
                        with self.subTest(call=call):
                            self.assertEqual(all_answers(call), [[0]])

    def assert_refused(self, call):
        with self.subTest(call=call):
            self.assertEqual(all_answers(call), [[-1]])

    def test_refuses_other_games(self):
        for game in (LEAST, -9, -8, -1, 0, 1, 7, 10, 15, 89, MOST):
            self.assert_refused(begin(game=game))

    def test_refuses_racks_not_1_to_30(self):
        for racks in (LEAST, -30, -1, 0, 31, 32, 300, MOST):
            self.assert_refused(begin(racks=racks))
            self.assert_refused(begin(game=9, racks=racks))

    def test_refuses_turns_not_0_or_1(self):
        for turns in (LEAST, -1, 2, 3, MOST):
            self.assert_refused(begin(turns=turns))
            self.assert_refused(begin(game=9, turns=turns))

    def test_refuses_breaker_not_0_or_1(self):
        for breaker in (LEAST, -1, 2, 3, MOST):
            self.assert_refused(begin(breaker=breaker))
            self.assert_refused(begin(game=9, breaker=breaker))

    def test_refuses_several_wrong_numbers_once(self):
        self.assert_refused(begin(LEAST, MOST, LEAST, MOST))

    def test_a_refused_begin_begins_no_race(self):
        self.assertEqual(all_answers(begin(7), DRY_BREAK), [[-1], [-2]])

    def test_a_refused_begin_leaves_a_race_as_it_was(self):
        wrong = [begin(10), begin(racks=0), begin(racks=31), begin(turns=2), begin(breaker=-1)]
        calls = [begin(9, 2, 0, 1), shot(1, [2, 3]), *wrong, shot(1, [1], push=0)]
        self.assertEqual(all_answers(*calls)[2:], [[-1]] * 5 + [[0, 0, 0, 1, 2, 0, 6]])

    def test_a_refused_begin_leaves_a_choice_as_it_was(self):
        self.assertEqual(nine(DRY_BREAK, shot(0, cushions=0, push=1), begin(0), choose(1)), [1, 0, 0, 1, 2, 0, 9])

    def test_a_begin_in_the_middle_of_a_race_ends_it(self):
        calls = [begin(9, 3, 1, 0), shot(1, [9]), shot(1, [2]), begin(8, 3, 1, 1), shot(8, [], cushions=4)]
        self.assertEqual(all_answers(*calls)[3:], [[0], [0, 0, 0, 0, 2, 0, 15]])

    def test_a_begin_ends_a_choice(self):
        calls = [begin(8), shot(1, cushions=3), begin(9), choose(0), DRY_BREAK]
        self.assertEqual(all_answers(*calls)[2:], [[0], [-3], [0, 0, 0, 1, 1, 0, 9]])

    def test_a_begin_behind_a_race_that_is_over(self):
        calls = [begin(9, 1), shot(1, [9]), DRY_BREAK, begin(9, 1, 1, 1), shot(1, [9])]
        self.assertEqual(all_answers(*calls), [[0], [2, 1, 0], [-2], [0], [3, 0, 1]])

    def test_a_begin_again_racks_up_all_balls_and_no_fouls(self):
        calls = [begin(9), MISS, shot(1), MISS, shot(1), begin(9), MISS, shot(1), MISS]
        self.assertEqual(last_answer(*calls), [1, 0, 0, 1, 2, 1, 9])


if __name__ == "__main__":
    unittest.main()
