"""Which calls are refused: each function answers the refusal, or 0 for what may be."""

from poolreferee.state import EIGHT_BALL, NINE_BALL, PHASE_BEHIND_BREAK, PHASE_CHOICE


def begin_refusal(game, racks, turns, breaker):
    """The refusal of a begin."""
    if game not in (EIGHT_BALL, NINE_BALL) or not 1 <= racks <= 30:
        return -1
    if turns not in (0, 1) or breaker not in (0, 1):
        return -1
    return 0


def shot_refusal(race, shot):
    """The refusal of a shot; race is None where there is none."""
    if not has_right_numbers(shot):
        return -1
    if not goes_on(race):
        return -2
    if race.phase == PHASE_CHOICE:
        return -3
    if not fits_table(race, shot):
        return -4
    if not may_happen(race, shot):
        return -5
    return 0


def choose_refusal(race, chosen):
    """The refusal of a choice; race is None where there is none."""
    if chosen not in (0, 1):
        return -1
    if not goes_on(race):
        return -2
    if race.phase != PHASE_CHOICE:
        return -3
    return 0


def look_refusal(race):
    """The refusal of a look at the balls; race is None where there is none."""
    return 0 if goes_on(race) else -2


def goes_on(race):
    """Tell if there is a race that is not over."""
    return race is not None and not race.over


def has_right_numbers(shot):
    """Tell if each number of the shot is within its bounds."""
    for number in (shot.first, shot.called, shot.cushions):
        if not 0 <= number <= 15:
            return False
    if shot.lost not in (0, 1) or shot.push not in (0, 1):
        return False
    return all([1 <= ball <= 15 for ball in shot.potted])


def fits_table(race, shot):
    """Tell if the balls of the shot are on the table, and each is potted once."""
    for ball in (shot.first, shot.called):
        if ball != 0 and ball not in race.balls:
            return False
    return all([ball in race.balls and shot.potted.count(ball) == 1 for ball in shot.potted])


def may_happen(race, shot):
    """Tell if a push is allowed where one is told, and if nothing moved without a ball hit."""
    if shot.push == 1 and race.phase != PHASE_BEHIND_BREAK:
        return False
    return shot.first != 0 or (shot.cushions == 0 and len(shot.potted) == 0)
