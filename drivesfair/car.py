"""The car that some share: its people, its days, and whose turn it is to drive."""

FEWEST_PEOPLE = 2
MOST_PEOPLE = 10
MOST_DAYS = 1000

# Divisible by every number of riders from 1 to 10, so a share is always a whole number.
PARTS_OF_A_DRIVE = 2520

NOT_AS_TOLD = -22
NOT_THERE = -2
NO_ROOM = -28


class Car:
    """One shared car: how many share it, its days in order, and what each one owes."""

    def __init__(self):
        self.people = 0
        self.days = []
        self.owed = []

    def start(self, n):
        """Begin anew with n people and no days; answer 0."""
        if n < FEWEST_PEOPLE or n > MOST_PEOPLE:
            return NOT_AS_TOLD
        self.people = n
        self.days = []
        self.owed = [0] * n
        return 0

    def who(self, m):
        """Answer whose turn it is of those who ride."""
        if not self.can_ride(m):
            return NOT_AS_TOLD
        return self.whose_turn(self.riders(m))

    def ride(self, m):
        """Add a day on which whose turn it is drives; answer who that is."""
        if not self.can_ride(m):
            return NOT_AS_TOLD
        if self.is_full():
            return NO_ROOM
        riding = self.riders(m)
        driver = self.whose_turn(riding)
        self.add_day(riding, driver)
        return driver

    def ride_by(self, m, k):
        """Add a day on which k drives; answer how many days there were before."""
        if not self.can_ride(m):
            return NOT_AS_TOLD
        riding = self.riders(m)
        if k not in riding:
            return NOT_THERE
        if self.is_full():
            return NO_ROOM
        before = len(self.days)
        self.add_day(riding, k)
        return before

    def can_ride(self, m):
        """Tell whether the bits m name somebody, and nobody that there isn't."""
        return m != 0 and m < 1 << self.people

    def riders(self, m):
        """List the people whose bits are set in m, the first one first."""
        return [person for person in range(self.people) if (m >> person) % 2 == 1]

    def whose_turn(self, riding):
        """Find who owes most of those who ride."""
        turn = riding[0]
        for person in riding:
            # Strictly more: of like ones the one who comes first keeps the turn.
            if self.owed[person] > self.owed[turn]:
                turn = person
        return turn

    def is_full(self):
        """Tell whether there is no room for another day."""
        return len(self.days) >= MOST_DAYS

    def add_day(self, riding, driver):
        """Put a day behind the others, and bring what each one owes up to it."""
        self.days.append((tuple(riding), driver))
        share = PARTS_OF_A_DRIVE // len(riding)
        for person in riding:
            self.owed[person] += share
        self.owed[driver] -= PARTS_OF_A_DRIVE
