"""The calls on one car, handed over as one list of whole numbers."""

from drivesfair.car import Car

START = 0
WHO = 1
RIDE = 2
RIDE_BY = 3

# How many whole numbers stand behind each call's number, in the order of these numbers.
NUMBERS_BEHIND = (1, 1, 1, 2)


def answers(calls):
    """Answer the calls on a new car: for each, how many numbers are answered, and these."""
    car = Car()
    given = []
    place = 0
    while place < len(calls):
        behind = place + 1 + NUMBERS_BEHIND[calls[place]]
        answered = answer(car, calls[place], calls[place + 1:behind])
        given.append(len(answered))
        given.extend(answered)
        place = behind
    return given


def answer(car, call, numbers):
    """Carry out one call on the car, and list what it answers."""
    if call == START:
        return [car.start(numbers[0])]
    if call == WHO:
        return [car.who(numbers[0])]
    if call == RIDE:
        return [car.ride(numbers[0])]
    return [car.ride_by(numbers[0], numbers[1])]
