"""The rules of nine-ball."""

from poolreferee.shots import is_common_foul, is_weak_break
from poolreferee.state import ANSWER_FAIR, ANSWER_FOUL, PHASE_BEHIND_BREAK, PHASE_BREAK, PHASE_PLAY

NINE = 9


def right_balls_of_nine(race):
    """The one ball that may be hit first, in a list."""
    return [min(race.balls)]


def is_foul_of_nine(race, shot):
    """Tell if the shot is a foul."""
    if shot.push == 1:
        return shot.lost == 1
    if race.phase == PHASE_BREAK and is_weak_break(shot):
        return True
    return is_common_foul(shot, right_balls_of_nine(race))


def take_shot_of_nine(race, shot):
    """Let the shot happen; answer what it was."""
    foul = is_foul_of_nine(race, shot)
    race.take_off(shot.potted)
    if foul:
        return go_on_behind_foul(race)
    if shot.push == 1:
        race.let_other_choose(1)
        return ANSWER_FAIR
    race.fouls[race.turn] = 0
    if NINE in shot.potted:
        return race.end_rack(race.turn)
    if len(shot.potted) > 0:
        race.play_on(phase_behind(race))
    else:
        race.pass_turn(phase_behind(race), 0)
    return ANSWER_FAIR


def go_on_behind_foul(race):
    """Count the foul: the third in a row loses the rack."""
    side = race.turn
    race.fouls[side] += 1
    if race.fouls[side] == 3:
        return race.end_rack(1 - side)
    race.pass_turn(phase_behind(race), 1)
    return ANSWER_FOUL


def phase_behind(race):
    """The phase of the next shot in this rack."""
    return PHASE_BEHIND_BREAK if race.phase == PHASE_BREAK else PHASE_PLAY
