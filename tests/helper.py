"""What the tests share: calls written shortly, texts to call with, faults marked in a text, work and rest as a slow
model that follows the document's words."""

import functools

from pilothall.pilots import answers

PORT, ROSTER, TEXT, TURN, NAME, WHY, CHOOSE, TAKE, GIVE, ENTRY = range(1, 11)
CANCEL, SWAP, HAND, WORK, DUTY, NIGHTS, JUDGE, LEAST, LOG, LOAD = range(11, 21)

DAY = 1440
WEEK = 10080

HARBOUR = (
    "port Hafen keep 0.50 or 10 % ;\n"
    "place sea ; place quay ; place dock ;\n"
    "leg inner from sea to quay miles 2.50 depth 12.00 wide 200.00 fast 10.0 ;\n"
    "leg outer from quay to sea miles 7 depth 15 wide 300 fast 12 ;\n"
    "leg basin from quay to dock miles 0.50 depth 11 wide 90 fast 5 ;\n"
)
SHIP = "ship Gerda kind tanker long 150 beam 22 draught 8 high 30 block 0.8 gross 12000 board 4 ;"


def rules(duty=720, rest=600, night="22:00", till="06:00", night_rest=720, nights=3, week=4000, before=0, behind=0):
    return (f"rules duty {duty} rest {rest} night {night} to {till} rest {night_rest} nights {nights} "
            f"week {week} before {before} behind {behind} ;\n")


def free_rules(**changed):
    """Rules that forbid next to nothing, but for what is changed."""
    wide = dict(duty=2880, rest=0, night="03:00", till="03:01", night_rest=0, nights=14, week=10080)
    wide.update(changed)
    return rules(**wide)


def crew(names, more=""):
    """Pilots, each licensed for every leg and ship at all times."""
    text = "grade any long 500 draught 30 gross 400000 ;\n"
    for name in names:
        text += f"pilot {name} ;\nlicence {name} grade any 1900-01-01 to 2199-12-31 legs inner , outer , basin ;\n"
    return text + more


def job(begin, end, legs="inner", ship=SHIP):
    return f"job {begin} to {end} legs {legs} ;\n{ship}\n"


@functools.lru_cache(None)
def days_before(year, month):
    """Counted without formulas, so that it says something about the program's."""
    lengths = [31, 28, 31, 30, 31, 30, 31, 31, 30, 31, 30, 31]
    days = 0
    for earlier in range(1900, year):
        days += 366 if leap(earlier) else 365
    for index in range(month - 1):
        days += 29 if index == 1 and leap(year) else lengths[index]
    return days


def leap(year):
    return year in (2000,) or (year % 4 == 0 and year not in (1900, 2100))


def minute(moment):
    """The minute of a written moment."""
    day, time = moment.split()
    year, month, date = [int(part) for part in day.split("-")]
    hour, rest = [int(part) for part in time.split(":")]
    return (days_before(year, month) + date - 1) * 1440 + hour * 60 + rest


def moment(value):
    """The written moment of a minute."""
    left = value // 1440
    year = 1900
    while days_before(year + 1, 1) <= left:
        year += 1
    month = 12
    while days_before(year, month) > left:
        month -= 1
    date = left - days_before(year, month) + 1
    return f"{year:04}-{month:02}-{date:02} {value % 1440 // 60:02}:{value % 60:02}"


def span(begin, end, legs="inner", ship=SHIP):
    """A job's text from one minute to another."""
    return job(moment(begin), moment(end), legs, ship)


def by(name, begin, end, legs="inner", ship=SHIP):
    """An entry of a log's text, from one minute to another."""
    return f"by {name} " + span(begin, end, legs, ship)


def as_bytes(told):
    return list(told.encode("latin-1")) if isinstance(told, str) else list(told)


def as_text(numbers):
    return bytes(numbers).decode("latin-1")


def flat(calls):
    """Calls as the one list that is handed in: a call is its number, its whole numbers, its text."""
    told = []
    for call in calls:
        for part in call:
            if isinstance(part, int):
                told.append(part)
            else:
                told.append(len(part))
                told.extend(as_bytes(part))
    return told


def split(given):
    parts = []
    place = 0
    while place < len(given):
        count = given[place]
        part = given[place + 1:place + 1 + count]
        if len(part) != count:
            raise AssertionError("an answer ends early")
        parts.append(part)
        place += 1 + count
    return parts


def talk(*calls):
    """The answers, one list for each call."""
    parts = split(answers(flat(calls)))
    if len(parts) != len(calls):
        raise AssertionError("not an answer for each call")
    return parts


def last(*calls):
    return talk(*calls)[-1]


def unmark(marked):
    """A text with one ^ in it: the text without, and where it stood."""
    place = marked.index("^")
    return marked[:place] + marked[place + 1:], place


def check_faults(case, before, number, rows, behind=""):
    """Each row: the kind, and the text with a ^ at the place where the fault is told."""
    for kind, marked in rows:
        with case.subTest(marked=marked):
            text, place = unmark(marked)
            case.assertEqual(last(*before, (number, text + behind)), [-2, kind, place])


def check_read(case, before, number, texts):
    for text in texts:
        with case.subTest(text=text):
            case.assertEqual(last(*before, (number, text)), [0])


def night_at(day, told):
    begin = day * DAY + told["night"]
    end = day * DAY + told["till"]
    return (begin, end if told["till"] > told["night"] else end + DAY)


def laps(one, other):
    return one[0] < other[1] and one[1] > other[0]


def nights_at(work, told):
    days = range(work[0] // DAY - 2, work[1] // DAY + 3)
    return {day for day in days if day >= 0 and laps(work, night_at(day, told))}


def duties(works, told):
    """The works of each duty."""
    found = []
    for work in works:
        if found:
            own = found[-1]
            end = max(other[1] for other in own)
            rest = told["night_rest"] if any(nights_at(other, told) for other in own) else told["rest"]
            if work[0] < end + rest:
                own.append(work)
                continue
        found.append([work])
    return found


def worked_between(works, begin, end):
    return sum(len(range(max(work[0], begin), min(work[1], end))) for work in works)


def longest_row(days):
    return max((next(n for n in range(1, 999) if day + n not in days) for day in days), default=0)


def kinds_of_last(works, leaves, told):
    """What's wrong with the last of these works, which stand in order."""
    work = works[-1]
    kinds = []
    if any(laps(work, leave) for leave in leaves):
        kinds.append(2)
    if any(other[1] > work[0] for other in works[:-1]):
        kinds.append(3)
    own = duties(works, told)[-1]
    if max(other[1] for other in own) - own[0][0] > told["duty"]:
        kinds.append(4)
    if worked_between(works, work[1] - WEEK, work[1]) > told["week"]:
        kinds.append(5)
    days = set().union(*[nights_at(other, told) for other in works])
    if any(all(day - back in days for back in range(told["nights"] + 1)) for day in nights_at(work, told)):
        kinds.append(6)
    return kinds


def kinds_of_each(works, leaves, told):
    return [kinds_of_last(works[:count + 1], leaves, told) for count in range(len(works))]


def is_sound(works, leaves, told):
    """Promise 2's right side: the works as a whole."""
    pairs = [(one, other) for index, one in enumerate(works) for other in works[:index]]
    if any(laps(one, other) for one, other in pairs) or any(laps(work, leave) for work in works for leave in leaves):
        return False
    if any(max(work[1] for work in own) - own[0][0] > told["duty"] for own in duties(works, told)):
        return False
    edges = [edge for work in works for edge in work]
    if any(worked_between(works, edge - WEEK, edge) > told["week"] for edge in edges + [edge + WEEK for edge in edges]):
        return False
    return longest_row(set().union(*[nights_at(work, told) for work in works])) <= told["nights"]


def some_rules(chance):
    rest = chance.choice([0, 60, 480, 600])
    night = chance.randrange(0, DAY)
    return dict(
        duty=chance.choice([300, 600, 720, 2880]), rest=rest, night=night, till=(night + chance.randrange(1, DAY)) % DAY,
        night_rest=rest + chance.choice([0, 60, 600]), nights=chance.choice([1, 2, 3, 5]),
        week=chance.choice([600, 1200, 2400, 10080]), before=chance.choice([0, 0, 30]), behind=chance.choice([0, 0, 45]))
