"""Which numbers are houses' numbers."""

from othersum.counts import is_within
from othersum.errors import NoHouse


def check_house(many, house):
    if not is_within(house, 0, many - 1):
        raise NoHouse("no house's number")


# Each is looked at by itself first: two things that are no numbers need not be told apart.
def check_pair(many, a, b):
    check_house(many, a)
    check_house(many, b)
    if a == b:
        raise NoHouse("one house twice")


def houses_of(table):
    return len(table[0])
