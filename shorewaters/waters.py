"""Areas of water, each of a class by its last readings, and shut for some days by rain.

`answers` takes one list of calls on a new object and gives back one list of what they answer.
"""

NO_SUCH_AREA = -2
TOO_FEW = -6
NOT_BEGUN = -11
OUT_OF_RANGE = -22
TOO_MANY = -28
NEVER = -33
TOO_LATE = -75

MOST_AREAS = 6
MOST_READINGS = 60
GREATEST_READING = 1000
MOST_RAIN = 1000
MOST_DAYS_SHUT = 60
MOST_DAYS_AT_ONCE = 100
LAST_DAY = 10000

MEAN_OF = 5
LOOKED_AT = 10
MOST_ABOVE_PEAK = 1
MOST_TRIED = 10

NOT_WITHIN_GOOD = 1
ABOVE_PEAK = 2
NOT_WITHIN_FAIR = 4
SHUT_BY_RAIN = 8

BEGIN = 0


class Area:
    """What has been read in one area, the last reading at the end, and the day up to which rain shuts it."""

    def __init__(self):
        self.readings = []
        self.shut_until = 0


class Waters:
    """All that one list of calls works on."""

    def __init__(self):
        self.begun = False
        self.good = 0
        self.fair = 0
        self.peak = 0
        self.rain = 0
        self.days = 0
        self.day = 0
        self.areas = []


def is_reading(x):
    return 1 <= x <= GREATEST_READING


def is_open_class(c):
    """The classes that may be open are also those that may be asked for."""
    return 1 <= c <= 2


def has_mean(readings):
    return len(readings) >= MEAN_OF


def product_of(readings):
    product = 1
    for reading in readings[-MEAN_OF:]:
        product = product * reading
    return product


def greatest_that(holds):
    """The greatest of 1 to 1,000 for which it holds, or 0; where it holds for one, it must for all that are less."""
    found = 0
    beyond = GREATEST_READING + 1
    while beyond - found > 1:
        middle = (found + beyond) // 2
        if holds(middle):
            found = middle
        else:
            beyond = middle
    return found


def mean_of(readings):
    product = product_of(readings)
    return greatest_that(lambda m: m ** 5 <= product)


def is_within(readings, m):
    # The product itself is compared: the mean is rounded down and would let too much through.
    return product_of(readings) <= m ** 5


def count_above(readings, m):
    return len([reading for reading in readings[-LOOKED_AT:] if reading > m])


def is_above_peak(waters, readings):
    return count_above(readings, waters.peak) > MOST_ABOVE_PEAK


def class_of(waters, readings):
    if not has_mean(readings):
        return 0
    if is_within(readings, waters.good) and not is_above_peak(waters, readings):
        return 1
    if is_within(readings, waters.fair):
        return 2
    return 3


def is_of_class(waters, readings, c):
    """Whether these readings make an area of class c or better."""
    return 1 <= class_of(waters, readings) <= c


def may_open(waters, area):
    return is_open_class(class_of(waters, area.readings))


def is_shut(waters, area):
    return waters.day < area.shut_until


def is_open(waters, area):
    return may_open(waters, area) and not is_shut(waters, area)


def open_areas(waters):
    return [i for i, area in enumerate(waters.areas) if is_open(waters, area)]


def shut_areas(waters):
    return [i for i, area in enumerate(waters.areas) if is_shut(waters, area)]


def measured_areas(waters):
    """The areas that have a mean, the better ones first."""
    measured = [i for i, area in enumerate(waters.areas) if has_mean(area.readings)]
    return sorted(measured, key=lambda i: (product_of(waters.areas[i].readings), i))


def are_bounds(good, fair, peak):
    return is_reading(good) and good <= fair <= GREATEST_READING and is_reading(peak)


def answer_begin(waters, arguments):
    if not are_bounds(arguments[0], arguments[1], arguments[2]):
        return [OUT_OF_RANGE]
    if arguments[3] > MOST_RAIN or arguments[4] > MOST_DAYS_SHUT:
        return [OUT_OF_RANGE]
    waters.begun = True
    waters.good = arguments[0]
    waters.fair = arguments[1]
    waters.peak = arguments[2]
    waters.rain = arguments[3]
    waters.days = arguments[4]
    waters.day = 0
    waters.areas = []
    return [0]


def answer_area(waters, arguments):
    if len(waters.areas) >= MOST_AREAS:
        return [TOO_MANY]
    waters.areas.append(Area())
    return [len(waters.areas) - 1]


def answer_read(waters, arguments):
    area = waters.areas[arguments[0]]
    x = arguments[1]
    if not is_reading(x):
        return [OUT_OF_RANGE]
    if len(area.readings) >= MOST_READINGS:
        return [TOO_MANY]
    before = class_of(waters, area.readings)
    area.readings.append(x)
    return [class_of(waters, area.readings), before]


def answer_back(waters, arguments):
    area = waters.areas[arguments[0]]
    if len(area.readings) == 0:
        return [TOO_FEW]
    taken = area.readings.pop()
    return [taken, class_of(waters, area.readings)]


def answer_rainfall(waters, arguments):
    mm = arguments[0]
    if mm > MOST_RAIN:
        return [OUT_OF_RANGE]
    if mm <= waters.rain:
        return [0]
    for area in waters.areas:
        area.shut_until = max(area.shut_until, waters.day + waters.days)
    return [waters.days]


def answer_days(waters, arguments):
    n = arguments[0]
    if n < 1 or n > MOST_DAYS_AT_ONCE:
        return [OUT_OF_RANGE]
    if waters.day + n > LAST_DAY:
        return [TOO_LATE]
    waters.day = waters.day + n
    return [waters.day, len(open_areas(waters))]


def answer_class(waters, arguments):
    area = waters.areas[arguments[0]]
    return [class_of(waters, area.readings), 1 if is_open(waters, area) else 0]


def answer_open(waters, arguments):
    found = open_areas(waters)
    return [len(found)] + found


def answer_shut(waters, arguments):
    found = shut_areas(waters)
    return [len(found)] + found


def answer_opens(waters, arguments):
    area = waters.areas[arguments[0]]
    if not may_open(waters, area):
        return [NEVER]
    return [max(0, area.shut_until - waters.day)]


def answer_mean(waters, arguments):
    readings = waters.areas[arguments[0]].readings
    if not has_mean(readings):
        return [TOO_FEW]
    return [mean_of(readings), product_of(readings)]


def answer_evenly(waters, arguments):
    readings = waters.areas[arguments[0]].readings
    if not has_mean(readings):
        return [TOO_FEW]
    total = sum(readings[-MEAN_OF:])
    return [total // MEAN_OF, total]


def answer_greatest(waters, arguments):
    readings = waters.areas[arguments[0]].readings
    c = arguments[1]
    if not is_open_class(c):
        return [OUT_OF_RANGE]
    found = greatest_that(lambda x: is_of_class(waters, readings + [x], c))
    return [found if found > 0 else NEVER]


def answer_would(waters, arguments):
    readings = waters.areas[arguments[0]].readings
    x = arguments[1]
    if not is_reading(x):
        return [OUT_OF_RANGE]
    return [class_of(waters, readings + [x])]


def answer_fewest(waters, arguments, wanted):
    """With how many readings of x, at the fewest, it's so or not so, as wanted, that it's of class c or better."""
    readings = waters.areas[arguments[0]].readings
    x = arguments[1]
    c = arguments[2]
    if not is_reading(x) or not is_open_class(c):
        return [OUT_OF_RANGE]
    for count in range(MOST_TRIED + 1):
        if is_of_class(waters, readings + [x] * count, c) == wanted:
            return [count]
    return [NEVER]


def answer_needs(waters, arguments):
    return answer_fewest(waters, arguments, True)


def answer_lasts(waters, arguments):
    return answer_fewest(waters, arguments, False)


def answer_above(waters, arguments):
    readings = waters.areas[arguments[0]].readings
    m = arguments[1]
    if not is_reading(m):
        return [OUT_OF_RANGE]
    return [count_above(readings, m), len(readings[-LOOKED_AT:])]


def answer_worse(waters, arguments):
    first = waters.areas[arguments[0]].readings
    other = waters.areas[arguments[1]].readings
    if not has_mean(first) or not has_mean(other):
        return [TOO_FEW]
    if product_of(first) > product_of(other):
        return [1]
    return [2 if product_of(other) > product_of(first) else 0]


def answer_best(waters, arguments):
    measured = measured_areas(waters)
    if len(measured) == 0:
        return [TOO_FEW]
    return [measured[0], mean_of(waters.areas[measured[0]].readings)]


def answer_order(waters, arguments):
    behind = [i for i, area in enumerate(waters.areas) if not has_mean(area.readings)]
    return [len(waters.areas)] + measured_areas(waters) + behind


def answer_why(waters, arguments):
    area = waters.areas[arguments[0]]
    why = SHUT_BY_RAIN if is_shut(waters, area) else 0
    if not has_mean(area.readings):
        return [why]
    if not is_within(area.readings, waters.good):
        why = why + NOT_WITHIN_GOOD
    if is_above_peak(waters, area.readings):
        why = why + ABOVE_PEAK
    if not is_within(area.readings, waters.fair):
        why = why + NOT_WITHIN_FAIR
    return [why]


def answer_reads(waters, arguments):
    shown = list(reversed(waters.areas[arguments[0]].readings[-LOOKED_AT:]))
    return [len(shown)] + shown


def answer_state(waters, arguments):
    return [0, waters.day, waters.good, waters.fair, waters.peak, waters.rain, waters.days, len(waters.areas)]


# By the call's number: what answers it, how many numbers it takes, and how many of these, the first ones, are areas.
CALLS = (
    (answer_begin, 5, 0),
    (answer_area, 0, 0),
    (answer_read, 2, 1),
    (answer_back, 1, 1),
    (answer_rainfall, 1, 0),
    (answer_days, 1, 0),
    (answer_class, 1, 1),
    (answer_open, 0, 0),
    (answer_shut, 0, 0),
    (answer_opens, 1, 1),
    (answer_mean, 1, 1),
    (answer_evenly, 1, 1),
    (answer_greatest, 2, 1),
    (answer_would, 2, 1),
    (answer_needs, 3, 1),
    (answer_lasts, 3, 1),
    (answer_above, 2, 1),
    (answer_worse, 2, 2),
    (answer_best, 0, 0),
    (answer_order, 0, 0),
    (answer_why, 1, 1),
    (answer_reads, 1, 1),
    (answer_state, 0, 0),
)


def answer_call(waters, number, arguments):
    call = CALLS[number]
    if number != BEGIN and not waters.begun:
        return [NOT_BEGUN]
    for i in arguments[:call[2]]:
        if i >= len(waters.areas):
            return [NO_SUCH_AREA]
    answer = call[0]
    return answer(waters, arguments)


def answers(calls):
    waters = Waters()
    told = []
    at = 0
    while at < len(calls):
        number = calls[at]
        behind = at + 1 + CALLS[number][1]
        reply = answer_call(waters, number, calls[at + 1:behind])
        told.append(len(reply))
        told.extend(reply)
        at = behind
    return told
