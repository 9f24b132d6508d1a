"""The car that some share: its people, its days, and whose turn it is to drive."""

from drivesfair.parts import PARTS_OF_A_DRIVE, share_of
from drivesfair.plans import first_plan

FEWEST_PEOPLE = 2
MOST_PEOPLE = 10
MOST_DAYS = 1000
MOST_DAYS_OF_A_PLAN = 7

NOT_AS_TOLD = -22
NOT_THERE = -2
NO_ROOM = -28
NO_DAYS = -6


class Car:
    """One shared car: how many share it, its days in order, and what these come to for each person.

    That is how often they drove, how often they rode, and how many parts they ought to have driven; it is kept
    beside the days, so that no call has to go through all of them.
    """

    def __init__(self):
        self.people = 0
        self.days = []
        self.drove = []
        self.rode = []
        self.ought = []

    def start(self, n):
        """Begin anew with n people and no days; answer 0."""
        if n < FEWEST_PEOPLE or n > MOST_PEOPLE:
            return NOT_AS_TOLD
        self.people = n
        self.days = []
        self.drove = [0] * n
        self.rode = [0] * n
        self.ought = [0] * n
        return 0

    def who(self, m):
        """Answer whose turn it is of those who ride."""
        if not self.can_ride(m):
            return NOT_AS_TOLD
        return self.whose_turn(self.riders(m))

    def ride(self, m):
        """Add a day on which whose turn it is drives; answer who that is."""
        if not self.can_ride(m):
            return NOT_AS_TOLD
        if self.is_full():
            return NO_ROOM
        riding = self.riders(m)
        driver = self.whose_turn(riding)
        self.add_day(riding, driver)
        return driver

    def ride_by(self, m, k):
        """Add a day on which k drives; answer how many days there were before."""
        if not self.can_ride(m):
            return NOT_AS_TOLD
        riding = self.riders(m)
        if k not in riding:
            return NOT_THERE
        if self.is_full():
            return NO_ROOM
        before = len(self.days)
        self.add_day(riding, k)
        return before

    def back(self):
        """Take the last day away; answer who drove on it."""
        if len(self.days) == 0:
            return NO_DAYS
        last = self.days.pop()
        self.reckon(last[0], last[1], -1)
        return last[1]

    def owes(self, k):
        """List whether person k is ahead (1 or 0), and how many parts they owe or are ahead; or the refusal alone."""
        if not self.is_there(k):
            return [NOT_THERE]
        parts = self.owed_by(k)
        return [1 if parts < 0 else 0, abs(parts)]

    def count(self, k):
        """List how often person k drove and rode, and the parts they ought to have driven; or the refusal alone."""
        if not self.is_there(k):
            return [NOT_THERE]
        return [self.drove[k], self.rode[k], self.ought[k]]

    def plan(self, days):
        """List how many days are told ahead, and for each who drives; or the refusal alone."""
        if len(days) > MOST_DAYS_OF_A_PLAN or not all([self.can_ride(m) for m in days]):
            return [NOT_AS_TOLD]
        return [len(days)] + first_plan([self.riders(m) for m in days], self.people)

    def is_there(self, k):
        """Tell whether there is a person k."""
        return k < self.people

    def can_ride(self, m):
        """Tell whether the bits m name somebody, and nobody that there isn't."""
        return m != 0 and m < 1 << self.people

    def riders(self, m):
        """List the people whose bits are set in m, the first one first."""
        return [person for person in range(self.people) if (m >> person) % 2 == 1]

    def whose_turn(self, riding):
        """Find who owes most of those who ride."""
        turn = riding[0]
        for person in riding:
            # Strictly more: of like ones the one who comes first keeps the turn.
            if self.owed_by(person) > self.owed_by(turn):
                turn = person
        return turn

    def owed_by(self, person):
        """Tell how many parts the person owes; below 0 they are ahead."""
        return self.ought[person] - PARTS_OF_A_DRIVE * self.drove[person]

    def is_full(self):
        """Tell whether there is no room for another day."""
        return len(self.days) >= MOST_DAYS

    def add_day(self, riding, driver):
        """Put a day behind the others."""
        self.days.append((tuple(riding), driver))
        self.reckon(riding, driver, 1)

    def reckon(self, riding, driver, times):
        """Bring what the days come to up to a day that is there once more (1) or once less (-1)."""
        for person in riding:
            self.rode[person] += times
            self.ought[person] += times * share_of(riding)
        self.drove[driver] += times
