"""What the tests share: calls by their names, and answers worked out the slow way."""

from fractions import Fraction
from itertools import product
from math import ceil, floor

from drivesfair.pool import answers

LARGEST = 4294967295

NUMBER_OF = {"start": 0, "who": 1, "ride": 2, "ride_by": 3, "back": 4, "owes": 5, "count": 6, "plan": 7}

ANSWER_A_LIST = ("owes", "count", "plan")


def flat(calls):
    """Write calls such as ("ride_by", m, k) or ("plan", days) as the one list that is handed over."""
    numbers = []
    for name, *rest in calls:
        numbers.append(NUMBER_OF[name])
        for handed in rest:
            numbers.extend([len(handed)] + handed if isinstance(handed, list) else [handed])
    return numbers


def ask(*calls):
    """Hand over a line of calls; list what each answers: a list for owes, count and plan, a number for the others."""
    given = answers(flat(calls))
    answered = []
    place = 0
    for name, *rest in calls:
        many = given[place]
        numbers = given[place + 1:place + 1 + many]
        if many < 1 or len(numbers) != many:
            raise AssertionError(f"not {many} numbers for {name} at place {place}: {given}")
        if many != 1 and name not in ANSWER_A_LIST:
            raise AssertionError(f"not one number for {name} at place {place}: {given}")
        answered.append(numbers if name in ANSWER_A_LIST else numbers[0])
        place += 1 + many
    if place != len(given):
        raise AssertionError(f"more than the answers of {len(calls)} calls: {given}")
    return answered


def ask_after(before, *calls):
    """Like ask, but list only what the calls behind those of the list before answer."""
    return ask(*before, *calls)[len(before):]


def people_of(m):
    """The people whose bits are set in m."""
    return [k for k in range(32) if m & 2 ** k]


def fair_bounds(days, k):
    """How often person k drives at least and at most, of days that are told as lists of riders."""
    ought = sum((Fraction(1, len(riding)) for riding in days if k in riding), Fraction(0))
    return floor(ought), ceil(ought)


def fair_ways(days):
    """Every fair way for days that are told as bits, the first one first: all ways are gone through one by one."""
    riders = [people_of(m) for m in days]
    bounds = [(k, *fair_bounds(riders, k)) for k in range(10)]
    for way in product(*riders):
        if all(least <= way.count(k) <= most for k, least, most in bounds):
            yield list(way)


def slow_plan(days):
    """What plan should answer for days that are as told."""
    return [len(days)] + next(fair_ways(days))


def state_of(n):
    """Calls that change nothing, and tell all that n people, their days and their turns are like."""
    return (
        [("owes", k) for k in range(n + 1)] + [("count", k) for k in range(n + 1)]
        + [("who", m) for m in range(2 ** n + 1)]
    )


class SlowCar:
    """The document's words, worked out anew from all the days at every call."""

    def __init__(self):
        self.n = None
        self.days = []

    def call(self, name, *handed):
        return getattr(self, name)(*handed)

    def drives(self, k):
        return sum(1 for rode, drove in self.days if drove == k)

    def ought(self, k):
        return sum(2520 // len(rode) for rode, drove in self.days if k in rode)

    def owed(self, k):
        return self.ought(k) - 2520 * self.drives(k)

    def as_told(self, m):
        return m != 0 and people_of(m)[-1] < self.n

    def start(self, n):
        if n not in range(2, 11):
            return -22
        self.n = n
        self.days = []
        return 0

    def who(self, m):
        if not self.as_told(m):
            return -22
        return sorted(people_of(m), key=lambda k: (-self.owed(k), k))[0]

    def ride(self, m):
        turn = self.who(m)
        if turn < 0:
            return turn
        refusal = self.ride_by(m, turn)
        return refusal if refusal < 0 else turn

    def ride_by(self, m, k):
        if not self.as_told(m):
            return -22
        if k not in people_of(m):
            return -2
        if len(self.days) == 1000:
            return -28
        self.days.append((people_of(m), k))
        return len(self.days) - 1

    def back(self):
        if not self.days:
            return -6
        rode, drove = self.days[-1]
        self.days = self.days[:-1]
        return drove

    def owes(self, k):
        if k not in range(self.n):
            return [-2]
        return [1, -self.owed(k)] if self.owed(k) < 0 else [0, self.owed(k)]

    def count(self, k):
        if k not in range(self.n):
            return [-2]
        return [self.drives(k), sum(1 for rode, drove in self.days if k in rode), self.ought(k)]

    def plan(self, days):
        if len(days) > 7 or not all(self.as_told(m) for m in days):
            return [-22]
        return slow_plan(days)


def slow_ask(*calls):
    """What ask should list for the same calls."""
    car = SlowCar()
    return [car.call(*call) for call in calls]


class Dice:
    """Numbers that look thrown, but are the same at every run."""

    def __init__(self, seed):
        self.state = seed

    def below(self, bound):
        self.state = (self.state * 6364136223846793005 + 1442695040888963407) % 2 ** 64
        return (self.state >> 33) % bound

    def one_of(self, choices):
        return choices[self.below(len(choices))]
