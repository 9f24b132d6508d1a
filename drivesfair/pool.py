"""The calls on one car, handed over as one list of whole numbers."""

from drivesfair.car import Car

START = 0
WHO = 1
RIDE = 2
RIDE_BY = 3
BACK = 4
OWES = 5
COUNT = 6
PLAN = 7

# How many whole numbers stand behind each call's number, in the order of these numbers; a plan tells it itself.
NUMBERS_BEHIND = (1, 1, 1, 2, 0, 1, 1)


def answers(calls):
    """Answer the calls on a new car: for each, how many numbers are answered, and these."""
    car = Car()
    given = []
    place = 0
    while place < len(calls):
        behind = end_of_call(calls, place)
        answered = answer(car, calls[place], calls[place + 1:behind])
        given.append(len(answered))
        given.extend(answered)
        place = behind
    return given


def end_of_call(calls, place):
    """Find the place behind the call that stands at this one."""
    if calls[place] == PLAN:
        return place + 2 + calls[place + 1]
    return place + 1 + NUMBERS_BEHIND[calls[place]]


def answer(car, call, numbers):
    """Carry out one call on the car, and list what it answers."""
    if call == START:
        return [car.start(numbers[0])]
    if call == WHO:
        return [car.who(numbers[0])]
    if call == RIDE:
        return [car.ride(numbers[0])]
    if call == RIDE_BY:
        return [car.ride_by(numbers[0], numbers[1])]
    if call == BACK:
        return [car.back()]
    if call == OWES:
        return car.owes(numbers[0])
    if call == COUNT:
        return car.count(numbers[0])
    # The first number of a plan says how many days stand behind it.
    return car.plan(numbers[1:])
