"""What the parts of a table say, what the whole says, and whether it turns."""

from othersum.counts import is_within, said, together_by_house
from othersum.errors import NoTable
from othersum.houses import check_pair, houses_of


def sums_of(table):
    return together_by_house(houses_of(table), table)


def says(table, a, b):
    check_pair(houses_of(table), a, b)
    return [said(part[a], part[b]) for part in table]


def turning(table, a, b):
    told = says(table, a, b)
    whole = sums_of(table)
    for number in (1, -1):
        if told.count(number) == len(told):
            return turned_or_kept(number, said(whole[a], whole[b]))
    for part, number in enumerate(told):
        if number is None or number == 0:
            return ("open", part)
    return ("apart", told.index(1), told.index(-1))


def turned_or_kept(number, whole):
    if whole == number:
        return ("kept", number)
    return ("turned", number, whole)


def grouped(table, groups):
    check_groups(table, groups)
    return [sums_of([table[part] for part in group]) for group in groups]


def check_groups(table, groups):
    seen = {}
    for group in groups:
        if len(group) == 0:
            raise NoTable("a group without parts")
        for part in group:
            if not is_within(part, 0, len(table) - 1) or part in seen:
                raise NoTable("no part's number, or one that stands twice")
            seen[part] = True
    if len(seen) != len(table):
        raise NoTable("a part that stands in no group")
