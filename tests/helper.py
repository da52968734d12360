"""Calls and answers, written short."""

from poolreferee.race import answers

LEAST = -2147483648
MOST = 2147483647

ON = [4]
NOW = [5]
TABLE = [6]

LOWS = [1, 2, 3, 4, 5, 6, 7]
HIGHS = [9, 10, 11, 12, 13, 14, 15]


def begin(game=8, racks=3, turns=1, breaker=0):
    return [1, game, racks, turns, breaker]


def shot(first, potted=(), cushions=1, called=0, lost=0, push=0):
    return [2, first, cushions, lost, called, push, len(potted)] + list(potted)


def choose(chosen):
    return [3, chosen]


def row_of(calls):
    """The calls as the one list that is handed in."""
    return [number for call in calls for number in call]


def parted(told):
    """The answers one by one, out of the one list that is given back."""
    parts = []
    start = 0
    while start < len(told):
        end = start + 1 + told[start]
        parts.append(told[start + 1:end])
        start = end
    return parts


def all_answers(*calls):
    return parted(answers(row_of(calls)))


def last_answer(*calls):
    return all_answers(*calls)[-1]


def race_by_rote(game, seed, rounds=120):
    """The calls of a race whose shots and choices are told by rote; many of them are refused."""
    numbers = seed
    calls = [begin(game, 30, seed % 2, seed // 2 % 2)]
    for count in range(rounds):
        numbers = (numbers * 1103515245 + 12345) % 2147483648
        bits = numbers // 512
        potted = sorted({bits % 15 + 1, bits // 15 % 15 + 1})[:bits // 225 % 3]
        first = bits // 675 % 10
        calls.append(shot(first, potted, cushions=bits // 8 % 6 if first else 0, called=first,
                          lost=int(bits // 7 % 5 == 0), push=int(bits // 11 % 7 == 0)))
        calls.append(choose(bits // 13 % 2))
    return calls


def eight(*shots, turns=1, breaker=0, racks=3):
    """The last answer of an eight-ball race."""
    return last_answer(begin(8, racks, turns, breaker), *shots)


def nine(*shots, turns=1, breaker=0, racks=3):
    """The last answer of a nine-ball race."""
    return last_answer(begin(9, racks, turns, breaker), *shots)


# Nothing potted and no foul: the turn passes, all balls stay.
DRY_BREAK = shot(1, cushions=4)
# Eight-ball alone: the other side is to choose.
WEAK_BREAK = shot(1, cushions=3)
# The cue ball hits nothing: a foul in any phase.
MISS = shot(0, cushions=0)
# Of nine-ball, behind the break alone: the other side is to choose.
PUSH = shot(1, push=1)

# Side 0 breaks and pots, so that it plays on at a table that is not divided yet.
BREAK_POTS_1 = shot(2, [1])
# Behind these, side 0 has the lows and shoots; 13 balls are left.
SIDE_0_IS_LOW = [BREAK_POTS_1, shot(2, [2], called=2)]
# Behind these, side 0 has the highs and shoots; 13 balls are left.
SIDE_0_IS_HIGH = [BREAK_POTS_1, shot(9, [9], called=9)]
# Behind these, side 0 has no low left, is to play the eight, and shoots; 8 balls are left.
SIDE_0_ON_EIGHT = [BREAK_POTS_1, shot(2, LOWS[1:], called=2)]
