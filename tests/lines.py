"""What the tests share: calls by their names, and answers worked out the slow way."""

from fractions import Fraction

from drivesfair.pool import answers

LARGEST = 4294967295

NUMBER_OF = {"start": 0, "who": 1, "ride": 2, "ride_by": 3}


def flat(calls):
    """Write calls such as ("ride_by", m, k) as the one list that is handed over."""
    numbers = []
    for name, *rest in calls:
        numbers.append(NUMBER_OF[name])
        numbers.extend(rest)
    return numbers


def ask(*calls):
    """Hand over a line of calls, each of which answers one number; list these numbers."""
    given = answers(flat(calls))
    if given[0::2] != [1] * len(calls) or len(given) != 2 * len(calls):
        raise AssertionError(f"not one number for each of {len(calls)} calls: {given}")
    return given[1::2]


def ask_after(before, *calls):
    """Like ask, but list only what the calls behind those of the list before answer."""
    return ask(*before, *calls)[len(before):]


class SlowCar:
    """The document's words, worked out anew from all the days at every call."""

    def __init__(self):
        self.n = None
        self.days = []

    def owes(self, k):
        ought = sum((Fraction(1, len(rode)) for rode, drove in self.days if k in rode), Fraction(0))
        return ought - sum(1 for rode, drove in self.days if drove == k)

    def call(self, name, *numbers):
        if name == "start":
            return self.start(*numbers)
        rode = [k for k in range(32) if numbers[0] & 2 ** k]
        if not rode or rode[-1] >= self.n:
            return -22
        turn = sorted(rode, key=lambda k: (-self.owes(k), k))[0]
        if name == "who":
            return turn
        drove = turn if name == "ride" else numbers[1]
        if drove not in rode:
            return -2
        if len(self.days) == 1000:
            return -28
        self.days.append((rode, drove))
        return turn if name == "ride" else len(self.days) - 1

    def start(self, n):
        if n not in range(2, 11):
            return -22
        self.n = n
        self.days = []
        return 0


def slow_ask(*calls):
    """What ask should list for the same calls."""
    car = SlowCar()
    return [car.call(*call) for call in calls]


class Dice:
    """Numbers that look thrown, but are the same at every run."""

    def __init__(self, seed):
        self.state = seed

    def below(self, bound):
        self.state = (self.state * 6364136223846793005 + 1442695040888963407) % 2 ** 64
        return (self.state >> 33) % bound

    def one_of(self, choices):
        return choices[self.below(len(choices))]
