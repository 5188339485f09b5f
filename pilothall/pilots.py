"""The calls on one hall, read from a list of whole numbers, and their answers."""

from pilothall.faults import Fault
from pilothall.halls import (
    Hall, cancel_call, choose_call, duty_call, entry_call, give_call, hand_call, judge_call, least_call, load_call,
    log_call, name_call, nights_call, port_call, roster_call, swap_call, take_call, text_call, turn_call, why_call,
    work_call,
)

PORT = 1
ROSTER = 2
TEXT = 3
TURN = 4
NAME = 5
WHY = 6
CHOOSE = 7
TAKE = 8
GIVE = 9
ENTRY = 10
CANCEL = 11
SWAP = 12
HAND = 13
WORK = 14
DUTY = 15
NIGHTS = 16
JUDGE = 17
LEAST = 18
LOG = 19
LOAD = 20

# Of each call: how many whole numbers it has, and its text's greatest length (0: it has no text).
SHAPES = {
    1: (0, 4096),
    2: (0, 8192),
    3: (0, 0),
    4: (0, 0),
    5: (1, 0),
    6: (1, 1024),
    7: (0, 1024),
    8: (0, 1024),
    9: (1, 1024),
    10: (1, 0),
    11: (1, 0),
    12: (2, 0),
    13: (2, 0),
    14: (3, 0),
    15: (2, 0),
    16: (2, 0),
    17: (0, 16384),
    18: (0, 4096),
    19: (0, 0),
    20: (0, 16384),
}

OUT_OF_MEASURE = -1
FAULTY = -2
MISSING = -3


class NoSuchCall(ValueError):
    """The list has a call that isn't there."""

    def __init__(self, number):
        self.number = number


class Call:
    """A call: its number, its whole numbers, its text, and where the list goes on behind it."""

    def __init__(self, number, numbers, told, behind):
        self.number = number
        self.numbers = numbers
        self.told = told
        self.behind = behind


def has_text(number):
    return SHAPES[number][1] > 0


def call_at(calls, place):
    number = calls[place]
    if number not in SHAPES:
        raise NoSuchCall(number)
    behind = place + 1 + SHAPES[number][0]
    numbers = calls[place + 1:behind]
    if not has_text(number):
        return Call(number, numbers, [], behind)
    first = behind + 1
    behind = first + calls[behind]
    return Call(number, numbers, calls[first:behind], behind)


def is_out_of_measure(call):
    """Is its text too long, or, of work, the second minute before the first?"""
    if call.number == WORK:
        return call.numbers[2] < call.numbers[1]
    return has_text(call.number) and len(call.told) > SHAPES[call.number][1]


def is_missing(hall, number):
    """Is there none of what the call asks for, the port or the roster?"""
    if number == PORT:
        return False
    if number == ROSTER:
        return hall.port is None
    return hall.roster is None


def text_answer(hall, call):
    if call.number == PORT:
        return port_call(hall, call.told)
    if call.number == ROSTER:
        return roster_call(hall, call.told)
    if call.number == WHY:
        return why_call(hall, call.numbers[0], call.told)
    if call.number == CHOOSE:
        return choose_call(hall, call.told)
    if call.number == TAKE:
        return take_call(hall, call.told)
    if call.number == GIVE:
        return give_call(hall, call.numbers[0], call.told)
    if call.number == JUDGE:
        return judge_call(hall, call.told)
    if call.number == LEAST:
        return least_call(hall, call.told)
    if call.number == LOAD:
        return load_call(hall, call.told)
    raise NoSuchCall(call.number)


def plain_answer(hall, call):
    numbers = call.numbers
    if call.number == TEXT:
        return text_call(hall)
    if call.number == TURN:
        return turn_call(hall)
    if call.number == NAME:
        return name_call(hall, numbers[0])
    if call.number == ENTRY:
        return entry_call(hall, numbers[0])
    if call.number == CANCEL:
        return cancel_call(hall, numbers[0])
    if call.number == SWAP:
        return swap_call(hall, numbers[0], numbers[1])
    if call.number == HAND:
        return hand_call(hall, numbers[0], numbers[1])
    if call.number == WORK:
        return work_call(hall, numbers[0], numbers[1], numbers[2])
    if call.number == DUTY:
        return duty_call(hall, numbers[0], numbers[1])
    if call.number == NIGHTS:
        return nights_call(hall, numbers[0], numbers[1])
    if call.number == LOG:
        return log_call(hall)
    raise NoSuchCall(call.number)


def answer(hall, call):
    if is_out_of_measure(call):
        return [OUT_OF_MEASURE]
    if is_missing(hall, call.number):
        return [MISSING]
    if not has_text(call.number):
        return plain_answer(hall, call)
    # A text is read whole before anything changes, so a faulty one changes nothing.
    try:
        return text_answer(hall, call)
    except Fault as fault:
        return [FAULTY, fault.kind, fault.place]


def answers(calls):
    """The answers to the calls, in order: of each how many numbers it has, then these."""
    hall = Hall()
    given = []
    place = 0
    while place < len(calls):
        call = call_at(calls, place)
        numbers = answer(hall, call)
        given.append(len(numbers))
        given.extend(numbers)
        place = call.behind
    return given
