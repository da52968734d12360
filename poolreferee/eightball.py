"""The rules of eight-ball."""

from poolreferee.shots import is_common_foul, is_weak_break
from poolreferee.state import ANSWER_FAIR, ANSWER_FOUL, HIGH, LOW, NO_GROUP, PHASE_BREAK, PHASE_PLAY

EIGHT = 8


def group_of(ball):
    """The group of a ball that is not the eight."""
    return LOW if ball < EIGHT else HIGH


def right_balls_of_eight(race):
    """The balls that may be hit first, rising."""
    if race.phase == PHASE_BREAK:
        return list(race.balls)
    group = race.groups[race.turn]
    left = [ball for ball in race.balls if ball != EIGHT and group in (NO_GROUP, group_of(ball))]
    return left if len(left) > 0 else [EIGHT]


def give_group(race, side, group):
    """Give one side this group, and the other side the other one."""
    race.groups[side] = group
    race.groups[1 - side] = LOW if group == HIGH else HIGH


def take_shot_of_eight(race, shot):
    """Let the shot happen; answer what it was."""
    right = right_balls_of_eight(race)
    foul = is_common_foul(shot, right)
    if race.phase != PHASE_BREAK and EIGHT in shot.potted:
        fair = not foul and right == [EIGHT] and shot.called == EIGHT
        return race.end_rack(race.turn if fair else 1 - race.turn)
    race.take_off(shot.potted)
    if foul:
        race.pass_turn(PHASE_PLAY, 1)
        return ANSWER_FOUL
    if race.phase == PHASE_BREAK:
        go_on_behind_break(race, shot)
    else:
        go_on_in_play(race, shot)
    return ANSWER_FAIR


def go_on_behind_break(race, shot):
    """Settle who shoots behind a break that was no foul."""
    if is_weak_break(shot):
        race.let_other_choose(0)
    elif len(shot.potted) > 0:
        race.play_on(PHASE_PLAY)
    else:
        race.pass_turn(PHASE_PLAY, 0)


def go_on_in_play(race, shot):
    """Settle the groups, and who shoots, behind a shot that was no foul and left the eight."""
    side = race.turn
    called_is_potted = shot.called in shot.potted
    if called_is_potted and race.groups[side] == NO_GROUP:
        give_group(race, side, group_of(shot.called))
    if called_is_potted and race.groups[side] == group_of(shot.called):
        race.play_on(PHASE_PLAY)
    else:
        race.pass_turn(PHASE_PLAY, 0)
