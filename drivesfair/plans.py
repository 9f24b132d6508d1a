"""Plans for days that are told ahead: who drives when, so that everybody's drives are fair.

A day is the list of those who ride on it, the first one first.
"""

from drivesfair.parts import PARTS_OF_A_DRIVE, share_of

NOBODY = -1


def first_plan(days, people):
    """List who drives on each day: the first of all ways in which everybody's drives are fair."""
    ought = ought_of(days, people)
    least = [parts // PARTS_OF_A_DRIVE for parts in ought]
    most = [(parts + PARTS_OF_A_DRIVE - 1) // PARTS_OF_A_DRIVE for parts in ought]
    drivers = []
    for day in range(len(days)):
        driver = first_driver(days[day], days[day + 1:], least, most)
        least = one_less(least, driver)
        most = one_less(most, driver)
        drivers.append(driver)
    return drivers


def ought_of(days, people):
    """List how many parts each person ought to drive of the days."""
    ought = [0] * people
    for riding in days:
        for person in riding:
            ought[person] += share_of(riding)
    return ought


def first_driver(riding, rest, least, most):
    """Find the first who rides and can drive, so that the rest of the days can still be fair."""
    place = 0
    # There is always a plan, so one of those who ride is found.
    while not can_drive(riding[place], rest, least, most):
        place += 1
    return riding[place]


def can_drive(person, rest, least, most):
    """Tell whether a fair way is left for the rest of the days once the person drives this one."""
    if most[person] == 0:
        return False
    still_least = one_less(least, person)
    still_most = one_less(most, person)
    # If each day finds a driver who may, and each drive that must be finds a day, then some way does both at once
    # (the theorem of Mendelsohn and Dulmage): so the two are asked one by one.
    return days_driven(rest, still_most) == len(rest) and days_driven(rest, still_least) == sum(still_least)


def one_less(drives, person):
    """Copy how many drives each person has left, with one less for this person where there is one."""
    left = list(drives)
    left[person] = max(left[person] - 1, 0)
    return left


def days_driven(days, drives):
    """Count the days that can be driven at most if each person has so many drives."""
    drivers = [NOBODY] * len(days)
    left = list(drives)
    driven = 0
    for day in range(len(days)):
        # A day that has a driver never loses one, so a day that finds one is one day more.
        if find_driver(day, days, drivers, left, [False] * len(left)):
            driven += 1
    return driven


def find_driver(day, days, drivers, left, asked):
    """Give the day a driver, if need be one whose other day somebody else can take; tell whether it has one."""
    for person in days[day]:
        if not asked[person]:
            asked[person] = True
            if can_take(person, days, drivers, left, asked):
                drivers[day] = person
                return True
    return False


def can_take(person, days, drivers, left, asked):
    """Free a drive of the person's: one that is left, or one whose day somebody else takes."""
    if left[person] > 0:
        left[person] -= 1
        return True
    for day in range(len(days)):
        if drivers[day] == person and find_driver(day, days, drivers, left, asked):
            return True
    return False
