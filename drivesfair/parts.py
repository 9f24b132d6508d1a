"""The parts of a drive, and how many of them each who rides ought to drive."""

# Divisible by every number of riders from 1 to 10, so a share is always a whole number.
PARTS_OF_A_DRIVE = 2520


def share_of(riding):
    """Tell how many parts of a day's drive each of those who ride ought to drive."""
    return PARTS_OF_A_DRIVE // len(riding)
