"""Days: the calendar of today, counted from the first of January of the year 1."""

MONTHS = (31, 28, 31, 30, 31, 30, 31, 31, 30, 31, 30, 31)
FEBRUARY = 2
LONGEST_YEAR = 366


def is_leap(year):
    """Tell whether February has 29 days in a year."""
    return year % 4 == 0 and (year % 100 != 0 or year % 400 == 0)


def days_in(year, month):
    """Tell how many days a month of a year has."""
    if month == FEBRUARY and is_leap(year):
        return MONTHS[month - 1] + 1
    return MONTHS[month - 1]


def days_ahead(year):
    """Tell how many days there are ahead of a year's first one."""
    past = year - 1
    return past * 365 + past // 4 - past // 100 + past // 400


def number_of(year, month, day):
    """Tell the number of a day, None where that day is not there."""
    if year < 1 or not 1 <= month <= len(MONTHS):
        return None
    if not 1 <= day <= days_in(year, month):
        return None
    months = [days_in(year, k) for k in range(1, month)]
    return days_ahead(year) + sum(months) + day - 1


def date_of(number):
    """Tell the year, the month and the day of a day's number."""
    # No year is longer, so this one is never too late, and seldom much too early.
    year = number // LONGEST_YEAR + 1
    while days_ahead(year + 1) <= number:
        year += 1
    left = number - days_ahead(year)
    month = 1
    while left >= days_in(year, month):
        left -= days_in(year, month)
        month += 1
    return (year, month, left + 1)
