"""How a race and its present rack stand."""

EIGHT_BALL = 8
NINE_BALL = 9

PHASE_BREAK = 0
PHASE_BEHIND_BREAK = 1
PHASE_PLAY = 2
PHASE_CHOICE = 3

NO_GROUP = 0
LOW = 1
HIGH = 2

ANSWER_FAIR = 0
ANSWER_FOUL = 1
ANSWER_WON_BY_FIRST_SIDE = 2


class RaceState:
    """One race: the racks won, and whose turn it is in the present rack."""

    def __init__(self, game, goal, by_turns, breaker):
        self.game = game
        self.goal = goal
        self.by_turns = by_turns
        self.won = [0, 0]
        self.over = False
        self.begin_rack(breaker)

    def begin_rack(self, breaker):
        """Put all balls on the table, for this side to break."""
        self.breaker = breaker
        self.turn = breaker
        self.phase = PHASE_BREAK
        self.in_hand = 1
        self.balls = list(range(1, 16 if self.game == EIGHT_BALL else 10))
        self.groups = [NO_GROUP, NO_GROUP]
        self.fouls = [0, 0]
        self.choice_of_push = 0

    def take_off(self, potted):
        """Take the potted balls off the table."""
        # The ball that decides the rack bears the game's number. Potted without ending the rack, it comes back.
        self.balls = [ball for ball in self.balls if ball not in potted or ball == self.game]

    def play_on(self, phase):
        """The side whose turn it is shoots again."""
        self.phase = phase
        self.in_hand = 0

    def pass_turn(self, phase, in_hand):
        """The other side shoots."""
        self.turn = 1 - self.turn
        self.phase = phase
        self.in_hand = in_hand

    def let_other_choose(self, of_push):
        """The other side is to choose how the rack goes on."""
        self.pass_turn(PHASE_CHOICE, 0)
        self.choice_of_push = of_push

    def end_rack(self, winner):
        """Count the rack for its winner, and answer that."""
        self.won[winner] += 1
        if self.won[winner] == self.goal:
            self.over = True
        else:
            self.begin_rack(1 - self.breaker if self.by_turns == 1 else winner)
        return ANSWER_WON_BY_FIRST_SIDE + winner

    def standing(self):
        """How it stands, in the numbers that are answered."""
        if self.over:
            return list(self.won)
        return self.won + [self.turn, self.phase, self.in_hand, len(self.balls)]

    def rack_details(self):
        """Side 0's group, both sides' fouls in a row, the breaker, and 1 while what's chosen is of a push."""
        return [self.groups[0]] + self.fouls + [self.breaker, self.choice_of_push]
