"""The calls about one race, and what is answered to them."""

from poolreferee.eightball import take_shot_of_eight
from poolreferee.nineball import take_shot_of_nine
from poolreferee.refusals import begin_refusal, choose_refusal, shot_refusal
from poolreferee.shots import Shot
from poolreferee.state import EIGHT_BALL, PHASE_PLAY, RaceState

CALL_BEGIN = 1
CALL_SHOT = 2

# How many numbers the calls without a list have, by the call's number, which is counted too.
CALL_LENGTHS = {1: 5, 3: 2}


class Referee:
    """Answers calls about one race, at whose beginning there is none."""

    def __init__(self):
        self.race = None

    def begin(self, game, racks, turns, breaker):
        """Begin a new race."""
        refusal = begin_refusal(game, racks, turns, breaker)
        if refusal == 0:
            self.race = RaceState(game, racks, turns, breaker)
        return [refusal]

    def take_shot(self, shot):
        """Judge a shot."""
        refusal = shot_refusal(self.race, shot)
        if refusal < 0:
            return [refusal]
        if self.race.game == EIGHT_BALL:
            outcome = take_shot_of_eight(self.race, shot)
        else:
            outcome = take_shot_of_nine(self.race, shot)
        return [outcome] + self.race.standing()

    def choose(self, chosen):
        """Let who is to choose have their choice."""
        refusal = choose_refusal(self.race, chosen)
        if refusal < 0:
            return [refusal]
        carry_out_choice(self.race, chosen)
        return [chosen] + self.race.standing()


def carry_out_choice(race, chosen):
    """Go on as was chosen: from there, or by what else there was to choose."""
    if chosen == 0:
        race.play_on(PHASE_PLAY)
    elif race.choice_of_push == 1:
        race.pass_turn(PHASE_PLAY, 0)
    else:
        race.begin_rack(race.turn)


def call_end(calls, start):
    """Where the call that begins at start ends."""
    if calls[start] == CALL_SHOT:
        return start + 7 + calls[start + 6]
    return start + CALL_LENGTHS[calls[start]]


def answer_call(referee, call):
    """What is answered to one call."""
    if call[0] == CALL_BEGIN:
        return referee.begin(call[1], call[2], call[3], call[4])
    if call[0] == CALL_SHOT:
        return referee.take_shot(Shot(call[1], call[2], call[3], call[4], call[5], call[7:]))
    return referee.choose(call[1])


def answers(calls):
    """What is answered to each call: how many numbers, then these."""
    referee = Referee()
    told = []
    start = 0
    while start < len(calls):
        end = call_end(calls, start)
        answer = answer_call(referee, calls[start:end])
        told.append(len(answer))
        told.extend(answer)
        start = end
    return told
