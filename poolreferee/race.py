"""The calls about one race, and what is answered to them."""

from poolreferee.eightball import right_balls_of_eight, take_shot_of_eight
from poolreferee.nineball import right_balls_of_nine, take_shot_of_nine
from poolreferee.refusals import begin_refusal, choose_refusal, look_refusal, shot_refusal
from poolreferee.shots import Shot
from poolreferee.state import EIGHT_BALL, PHASE_PLAY, RaceState

CALL_BEGIN = 1
CALL_SHOT = 2
CALL_CHOOSE = 3
CALL_ON = 4
CALL_NOW = 5

# How many numbers the calls without a list have, by the call's number, which is counted too.
CALL_LENGTHS = {1: 5, 3: 2, 4: 1, 5: 1, 6: 1}


class Referee:
    """Answers calls about one race, at whose beginning there is none."""

    def __init__(self):
        self.race = None

    def begin(self, game, racks, turns, breaker):
        """Begin a new race."""
        refusal = begin_refusal(game, racks, turns, breaker)
        if refusal == 0:
            self.race = RaceState(game, racks, turns, breaker)
        return [refusal]

    def take_shot(self, shot):
        """Judge a shot."""
        refusal = shot_refusal(self.race, shot)
        if refusal < 0:
            return [refusal]
        if self.race.game == EIGHT_BALL:
            outcome = take_shot_of_eight(self.race, shot)
        else:
            outcome = take_shot_of_nine(self.race, shot)
        return [outcome] + self.race.standing()

    def choose(self, chosen):
        """Let who is to choose have their choice."""
        refusal = choose_refusal(self.race, chosen)
        if refusal < 0:
            return [refusal]
        carry_out_choice(self.race, chosen)
        return [chosen] + self.race.standing()

    def on(self):
        """Tell which balls may be hit first."""
        refusal = look_refusal(self.race)
        if refusal < 0:
            return [refusal]
        return counted(right_balls(self.race))

    def now(self):
        """Tell how it stands, and what else there is to know of the rack; it is never refused."""
        if self.race is None:
            return [0, 0, 0]
        if self.race.over:
            return [0] + self.race.standing()
        return [1] + self.race.standing() + self.race.rack_details()

    def table(self):
        """Tell which balls are on the table."""
        refusal = look_refusal(self.race)
        if refusal < 0:
            return [refusal]
        return counted(self.race.balls)


def carry_out_choice(race, chosen):
    """Go on as was chosen: from there, or by what else there was to choose."""
    of_push = race.choice_of_push
    race.choice_of_push = 0
    if chosen == 0:
        race.play_on(PHASE_PLAY)
    elif of_push == 1:
        race.pass_turn(PHASE_PLAY, 0)
    else:
        race.begin_rack(race.turn)


def right_balls(race):
    """The balls that may be hit first, rising."""
    if race.game == EIGHT_BALL:
        return right_balls_of_eight(race)
    return right_balls_of_nine(race)


def counted(balls):
    """The balls, with how many they are ahead of them."""
    return [len(balls)] + balls


def call_end(calls, start):
    """Where the call that begins at start ends."""
    if calls[start] == CALL_SHOT:
        return start + 7 + calls[start + 6]
    return start + CALL_LENGTHS[calls[start]]


def answer_call(referee, call):
    """What is answered to one call."""
    if call[0] == CALL_BEGIN:
        return referee.begin(call[1], call[2], call[3], call[4])
    if call[0] == CALL_SHOT:
        return referee.take_shot(Shot(call[1], call[2], call[3], call[4], call[5], call[7:]))
    if call[0] == CALL_CHOOSE:
        return referee.choose(call[1])
    if call[0] == CALL_ON:
        return referee.on()
    if call[0] == CALL_NOW:
        return referee.now()
    return referee.table()


def answers(calls):
    """What is answered to each call: how many numbers, then these."""
    referee = Referee()
    told = []
    start = 0
    while start < len(calls):
        end = call_end(calls, start)
        answer = answer_call(referee, calls[start:end])
        told.append(len(answer))
        told.extend(answer)
        start = end
    return told
