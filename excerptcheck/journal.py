"""Houses made anew from a log."""

from excerptcheck.house import Clearinghouse


def replayed(letters, rates, log):
    """A new house on which the commands of a log were executed."""
    house = Clearinghouse(letters, rates)
    for command in log:
        house.execute(command)
    return house
