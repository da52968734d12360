"""A shot as it is told, and what makes it a foul in either game."""


class Shot:
    """What happened at one shot."""

    def __init__(self, first, cushions, lost, called, push, potted):
        self.first = first
        self.cushions = cushions
        self.lost = lost
        self.called = called
        self.push = push
        self.potted = potted


def is_common_foul(shot, right):
    """Tell if the shot is a foul in either game, where these balls are the right ones to hit first."""
    if shot.lost == 1 or shot.first not in right:
        return True
    return len(shot.potted) == 0 and shot.cushions == 0


def is_weak_break(shot):
    """Tell if too little happened for a good break."""
    return len(shot.potted) == 0 and shot.cushions < 4
