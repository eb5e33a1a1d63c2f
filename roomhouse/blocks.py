"""A list of calls on one house, and what each of them answers."""

from roomhouse.given import Given
from roomhouse.house import House
from roomhouse.refusals import NoBlock, NoPages, OutOfRange

BEGIN = 0
TAKE = 1
GIVE = 2
RESIZE = 3
TOLD = 4
HOLDS = 5
PUT = 6
GET = 7
COPY = 8
BLOCKS = 9
COUNTS = 10
SUMS = 11
TRIM = 12

# By the calls' numbers: how many whole numbers a call has, and whether a row stands behind them.
FORMS = (
    (3, True), (2, True), (1, True), (2, True), (1, False), (1, False), (1, True),
    (2, False), (3, False), (2, False), (0, False), (0, False), (0, True),
)

NO_BLOCK = -5
NO_PAGES = -7
OUT_OF_RANGE = -8


def answers(calls):
    """What the calls answer, one behind another, each with how many numbers it answers before it."""
    house = House()
    told = []
    at = 0
    while at < len(calls):
        number = calls[at]
        form = FORMS[number]
        numbers = calls[at + 1:at + 1 + form[0]]
        at += 1 + form[0]
        row = []
        if form[1]:
            row = calls[at + 1:at + 1 + calls[at]]
            at += 1 + len(row)
        answer = whole_answer(house, number, numbers, row)
        told.append(len(answer))
        told.extend(answer)
    return told


def whole_answer(house, number, numbers, row):
    """What one call asked, then what it answers."""
    # A row is always the given functions' answers, but put's: put asks nothing, so none of it is taken for one.
    given = Given(row)
    answer = answer_or_refusal(house, number, numbers, row, given)
    return given.numbers() + answer


def answer_or_refusal(house, number, numbers, row, given):
    try:
        return answer_of(house, number, numbers, row, given)
    except OutOfRange:
        return [OUT_OF_RANGE]
    except NoPages:
        return [NO_PAGES]
    except NoBlock:
        return [NO_BLOCK]


def answer_of(house, number, numbers, row, given):
    """What a call answers, what it asks left out."""
    if number == BEGIN:
        house.begin(numbers[0], numbers[1], numbers[2], given)
        return [0]
    if number == TAKE:
        return [house.take(numbers[0], numbers[1], given)]
    if number == GIVE:
        return [house.give(numbers[0], given)]
    if number == RESIZE:
        return [house.resize(numbers[0], numbers[1], given)]
    if number == TRIM:
        return [house.trim(given)]
    return answer_without_asks(house, number, numbers, row)


def answer_without_asks(house, number, numbers, row):
    if number == TOLD:
        return list(house.told(numbers[0]))
    if number == HOLDS:
        return [house.holds(numbers[0])]
    if number == PUT:
        house.put(numbers[0], row)
        return [0]
    if number == GET:
        return [0] + house.get(numbers[0], numbers[1])
    if number == COPY:
        house.copy(numbers[0], numbers[1], numbers[2])
        return [0]
    if number == BLOCKS:
        return house.blocks(numbers[0], numbers[1])
    if number == COUNTS:
        return [0] + house.counts()
    return [0] + house.sums()
