"""Standard weights, and which houses are first along the way from some to others."""

from othersum.counts import is_whole
from othersum.errors import NoShare, NoWeights
from othersum.houses import houses_of
from othersum.pushes import mixed_share
from othersum.ratios import less, minus, over, ratio_of


def firsts(table, weights, others):
    check_standard(table, weights)
    check_standard(table, others)
    houses = list(range(houses_of(table)))
    check_tried(table, houses, weights, others)
    return stretches([line_of(table, house, weights, others) for house in houses])


def check_standard(table, weights):
    if len(weights) != len(table):
        raise NoWeights("not as many weights as parts")
    if not all([is_whole(weight) and weight >= 0 for weight in weights]):
        raise NoWeights("a weight below nought")
    if sum(weights) == 0:
        raise NoWeights("no weight above nought")


def as_weights(weights):
    whole = sum(weights)
    return [ratio_of(weight, whole) for weight in weights]


def check_tried(table, houses, weights, others):
    for part, counts in enumerate(table):
        if weights[part] == 0 and others[part] == 0:
            continue
        for house in houses:
            if counts[house][0] == 0:
                raise NoShare(part, house)


# A house's mixed share along the way is a straight line: (where it begins, how much it rises).
def line_of(table, house, weights, others):
    start = mixed_share(table, house, as_weights(weights))
    return (start, minus(mixed_share(table, house, as_weights(others)), start))


def stretches(lines):
    told = []
    low = (0, 1)
    line = first_line(lines)
    step = next_step(lines, line)
    while step is not None:
        told.append((low, step[0], houses_on(lines, line)))
        low = step[0]
        line = step[1]
        step = next_step(lines, line)
    told.append((low, (1, 1), houses_on(lines, line)))
    return told


def houses_on(lines, line):
    return [house for house, other in enumerate(lines) if other == line]


# The greatest one just behind the start: of those that begin alike the steepest.
def first_line(lines):
    first = lines[0]
    for line in lines:
        if less(first[0], line[0]) or (line[0] == first[0] and less(first[1], line[1])):
            first = line
    return first


# Only a steeper line can come above the first one; of those that do so at once the steepest goes on as first.
def next_step(lines, line):
    step = None
    for other in lines:
        if less(line[1], other[1]):
            meeting = over(minus(line[0], other[0]), minus(other[1], line[1]))
            if less(meeting, (1, 1)) and (step is None or is_ahead((meeting, other), step)):
                step = (meeting, other)
    return step


def is_ahead(step, other):
    if step[0] == other[0]:
        return less(other[1][1], step[1][1])
    return less(step[0], other[0])
