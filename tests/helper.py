"""Calls and answers, written short."""

from poolreferee.race import answers

LEAST = -2147483648
MOST = 2147483647


def begin(game=8, racks=3, turns=1, breaker=0):
    return [1, game, racks, turns, breaker]


def shot(first, potted=(), cushions=1, called=0, lost=0, push=0):
    return [2, first, cushions, lost, called, push, len(potted)] + list(potted)


def choose(chosen):
    return [3, chosen]


def row_of(calls):
    """The calls as the one list that is handed in."""
    return [number for call in calls for number in call]


def parted(told):
    """The answers one by one, out of the one list that is given back."""
    parts = []
    start = 0
    while start < len(told):
        end = start + 1 + told[start]
        parts.append(told[start + 1:end])
        start = end
    return parts


def all_answers(*calls):
    return parted(answers(row_of(calls)))


def last_answer(*calls):
    return all_answers(*calls)[-1]


def eight(*shots, turns=1, breaker=0, racks=3):
    """The last answer of an eight-ball race."""
    return last_answer(begin(8, racks, turns, breaker), *shots)


def nine(*shots, turns=1, breaker=0, racks=3):
    """The last answer of a nine-ball race."""
    return last_answer(begin(9, racks, turns, breaker), *shots)


# Nothing potted and no foul: the turn passes, all balls stay.
DRY_BREAK = shot(1, cushions=4)
# Eight-ball alone: the other side is to choose.
WEAK_BREAK = shot(1, cushions=3)
# The cue ball hits nothing: a foul in any phase.
MISS = shot(0, cushions=0)
