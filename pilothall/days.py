"""Days, numbered from 1900-01-01 (0) to 2199-12-31, and minutes, counted from the first day's beginning."""

FIRST_YEAR = 1900
LAST_YEAR = 2199
DAY_MINUTES = 1440
LAST_MINUTE = 157785119
MONTH_LENGTHS = (31, 28, 31, 30, 31, 30, 31, 31, 30, 31, 30, 31)


def is_leap(year):
    return year % 4 == 0 and (year % 100 != 0 or year % 400 == 0)


def month_length(year, month):
    if month == 2 and is_leap(year):
        return 29
    return MONTH_LENGTHS[month - 1]


def is_day(year, month, day):
    if year < FIRST_YEAR or year > LAST_YEAR or month < 1 or month > 12:
        return False
    return 1 <= day <= month_length(year, month)


def leap_years_before(year):
    """How many leap years there are from the year 1 to the one before this."""
    last = year - 1
    return last // 4 - last // 100 + last // 400


def year_begin(year):
    """The number of the year's first day."""
    leaps = leap_years_before(year) - leap_years_before(FIRST_YEAR)
    return (year - FIRST_YEAR) * 365 + leaps


def day_number(year, month, day):
    number = year_begin(year) + day - 1
    for earlier in range(1, month):
        number += month_length(year, earlier)
    return number


def day_year(number):
    # Years of 366 days would bring no later year than the true one, so the search only goes up.
    year = FIRST_YEAR + number // 366
    while year_begin(year + 1) <= number:
        year += 1
    return year


def two_digits(number):
    return str(number).zfill(2)


def day_text(number):
    year = day_year(number)
    left = number - year_begin(year)
    month = 1
    while left >= month_length(year, month):
        left -= month_length(year, month)
        month += 1
    return str(year) + "-" + two_digits(month) + "-" + two_digits(left + 1)


def time_text(minute):
    return two_digits(minute // 60) + ":" + two_digits(minute % 60)


def moment_text(moment):
    return day_text(moment // DAY_MINUTES) + " " + time_text(moment % DAY_MINUTES)
