"""Areas of water, each of a class by its last readings, and shut for some days by rain.

`answers` takes one list of calls on a new object and gives back one list of what they answer.
"""

NO_SUCH_AREA = -2
TOO_FEW = -6
NOT_BEGUN = -11
OUT_OF_RANGE = -22
TOO_MANY = -28
NEVER = -33
TOO_LATE = -75

MOST_AREAS = 6
MOST_READINGS = 60
GREATEST_READING = 1000
MOST_RAIN = 1000
MOST_DAYS_SHUT = 60
MOST_DAYS_AT_ONCE = 100
LAST_DAY = 10000

MEAN_OF = 5
LOOKED_AT = 10
MOST_ABOVE_PEAK = 1

BEGIN = 0


class Area:
    """What has been read in one area, the last reading at the end, and the day up to which rain shuts it."""

    def __init__(self):
        self.readings = []
        self.shut_until = 0


class Waters:
    """All that one list of calls works on."""

    def __init__(self):
        self.begun = False
        self.good = 0
        self.fair = 0
        self.peak = 0
        self.rain = 0
        self.days = 0
        self.day = 0
        self.areas = []


def is_reading(x):
    return 1 <= x <= GREATEST_READING


def has_mean(readings):
    return len(readings) >= MEAN_OF


def product_of(readings):
    product = 1
    for reading in readings[-MEAN_OF:]:
        product = product * reading
    return product


def fifth_root(product):
    """The greatest whole number whose fifth power is no more than the product of five readings."""
    root = 1
    beyond = GREATEST_READING + 1
    while beyond - root > 1:
        middle = (root + beyond) // 2
        if middle ** 5 <= product:
            root = middle
        else:
            beyond = middle
    return root


def is_within(readings, m):
    # The product itself is compared: the mean is rounded down and would let too much through.
    return product_of(readings) <= m ** 5


def count_above(readings, m):
    return len([reading for reading in readings[-LOOKED_AT:] if reading > m])


def class_of(waters, readings):
    if not has_mean(readings):
        return 0
    if is_within(readings, waters.good) and count_above(readings, waters.peak) <= MOST_ABOVE_PEAK:
        return 1
    if is_within(readings, waters.fair):
        return 2
    return 3


def may_open(waters, area):
    return class_of(waters, area.readings) in (1, 2)


def is_shut(waters, area):
    return waters.day < area.shut_until


def is_open(waters, area):
    return may_open(waters, area) and not is_shut(waters, area)


def open_areas(waters):
    return [i for i, area in enumerate(waters.areas) if is_open(waters, area)]


def shut_areas(waters):
    return [i for i, area in enumerate(waters.areas) if is_shut(waters, area)]


def are_bounds(good, fair, peak):
    return is_reading(good) and good <= fair <= GREATEST_READING and is_reading(peak)


def answer_begin(waters, arguments):
    if not are_bounds(arguments[0], arguments[1], arguments[2]):
        return [OUT_OF_RANGE]
    if arguments[3] > MOST_RAIN or arguments[4] > MOST_DAYS_SHUT:
        return [OUT_OF_RANGE]
    waters.begun = True
    waters.good = arguments[0]
    waters.fair = arguments[1]
    waters.peak = arguments[2]
    waters.rain = arguments[3]
    waters.days = arguments[4]
    waters.day = 0
    waters.areas = []
    return [0]


def answer_area(waters, arguments):
    if len(waters.areas) >= MOST_AREAS:
        return [TOO_MANY]
    waters.areas.append(Area())
    return [len(waters.areas) - 1]


def answer_read(waters, arguments):
    area = waters.areas[arguments[0]]
    x = arguments[1]
    if not is_reading(x):
        return [OUT_OF_RANGE]
    if len(area.readings) >= MOST_READINGS:
        return [TOO_MANY]
    before = class_of(waters, area.readings)
    area.readings.append(x)
    return [class_of(waters, area.readings), before]


def answer_back(waters, arguments):
    area = waters.areas[arguments[0]]
    if len(area.readings) == 0:
        return [TOO_FEW]
    taken = area.readings.pop()
    return [taken, class_of(waters, area.readings)]


def answer_rainfall(waters, arguments):
    mm = arguments[0]
    if mm > MOST_RAIN:
        return [OUT_OF_RANGE]
    if mm <= waters.rain:
        return [0]
    for area in waters.areas:
        area.shut_until = max(area.shut_until, waters.day + waters.days)
    return [waters.days]


def answer_days(waters, arguments):
    n = arguments[0]
    if n < 1 or n > MOST_DAYS_AT_ONCE:
        return [OUT_OF_RANGE]
    if waters.day + n > LAST_DAY:
        return [TOO_LATE]
    waters.day = waters.day + n
    return [waters.day, len(open_areas(waters))]


def answer_class(waters, arguments):
    area = waters.areas[arguments[0]]
    return [class_of(waters, area.readings), 1 if is_open(waters, area) else 0]


def answer_open(waters, arguments):
    found = open_areas(waters)
    return [len(found)] + found


def answer_shut(waters, arguments):
    found = shut_areas(waters)
    return [len(found)] + found


def answer_opens(waters, arguments):
    area = waters.areas[arguments[0]]
    if not may_open(waters, area):
        return [NEVER]
    return [max(0, area.shut_until - waters.day)]


def answer_mean(waters, arguments):
    readings = waters.areas[arguments[0]].readings
    if not has_mean(readings):
        return [TOO_FEW]
    product = product_of(readings)
    return [fifth_root(product), product]


def answer_evenly(waters, arguments):
    readings = waters.areas[arguments[0]].readings
    if not has_mean(readings):
        return [TOO_FEW]
    total = sum(readings[-MEAN_OF:])
    return [total // MEAN_OF, total]


def not_written(waters, arguments):
    raise NotImplementedError("this call is not written yet")


# By the call's number: what answers it, how many numbers it takes, and how many of these, the first ones, are areas.
# The calls that are not written yet stand here too, so that their refusals -11 and -2 hold already.
CALLS = (
    (answer_begin, 5, 0),
    (answer_area, 0, 0),
    (answer_read, 2, 1),
    (answer_back, 1, 1),
    (answer_rainfall, 1, 0),
    (answer_days, 1, 0),
    (answer_class, 1, 1),
    (answer_open, 0, 0),
    (answer_shut, 0, 0),
    (answer_opens, 1, 1),
    (answer_mean, 1, 1),
    (answer_evenly, 1, 1),
    (not_written, 2, 1),
    (not_written, 2, 1),
    (not_written, 3, 1),
    (not_written, 3, 1),
    (not_written, 2, 1),
    (not_written, 2, 2),
    (not_written, 0, 0),
    (not_written, 0, 0),
    (not_written, 1, 1),
    (not_written, 1, 1),
    (not_written, 0, 0),
)


def answer_call(waters, number, arguments):
    call = CALLS[number]
    if number != BEGIN and not waters.begun:
        return [NOT_BEGUN]
    for i in arguments[:call[2]]:
        if i >= len(waters.areas):
            return [NO_SUCH_AREA]
    answer = call[0]
    return answer(waters, arguments)


def answers(calls):
    waters = Waters()
    told = []
    at = 0
    while at < len(calls):
        number = calls[at]
        behind = at + 1 + CALLS[number][1]
        reply = answer_call(waters, number, calls[at + 1:behind])
        told.append(len(reply))
        told.extend(reply)
        at = behind
    return told
