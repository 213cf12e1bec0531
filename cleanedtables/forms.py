"""Forms: how texts are read as numbers, and numbers written as texts."""

from cleanedtables.days import date_of, number_of
from cleanedtables.worths import is_whole

MOST_PLACES = 4
ORDERS = ("ymd", "dmy", "mdy")
BETWEEN = ("-", ".", "/")
WHOLE_FIGURES = 9
AMOUNT_FIGURES = 8
YEAR_FIGURES = 4
DAY_FIGURES = 2


def is_form(thing):
    """Tell whether a thing, of any kind, is a form."""
    if not isinstance(thing, tuple) or len(thing) == 0 or not isinstance(thing[0], str):
        return False
    if thing[0] == "whole":
        return len(thing) == 1
    if len(thing) != 2:
        return False
    if thing[0] == "amount":
        return is_whole(thing[1]) and 1 <= thing[1] <= MOST_PLACES
    return thing[0] == "day" and isinstance(thing[1], str) and thing[1] in ORDERS


def read_as(form, text):
    """Tell the number that a text is by a form, None where it is none."""
    if form[0] == "whole":
        return read_amount(text, WHOLE_FIGURES, 0)
    if form[0] == "amount":
        return read_amount(text, AMOUNT_FIGURES, form[1])
    return read_day(text, form[1])


def is_figures(text, most):
    """Tell whether a text is of 1 to most figures."""
    return 1 <= len(text) <= most and text.isascii() and text.isdigit()


def read_amount(text, most, places):
    """Tell how many least ones a text of most figures and a few behind the point is."""
    unsigned = text[1:] if text[:1] in ("+", "-") else text
    whole, point, behind = unsigned.partition(".")
    if not is_figures(whole, most):
        return None
    if point != "" and not is_figures(behind, places):
        return None
    number = int(whole + behind.ljust(places, "0"))
    return -number if text.startswith("-") else number


def read_day(text, order):
    """Tell the number of the day that a text is, its parts in an order."""
    for sign in BETWEEN:
        parts = text.split(sign)
        if len(parts) == len(order):
            # Another sign between leaves a part that is not of figures alone.
            return day_of(dict(zip(order, parts)))
    return None


def day_of(parts):
    """Tell the number of the day of a year's, a month's and a day's text."""
    year, month, day = parts["y"], parts["m"], parts["d"]
    if len(year) != YEAR_FIGURES or not is_figures(year, YEAR_FIGURES):
        return None
    if not is_figures(month, DAY_FIGURES) or not is_figures(day, DAY_FIGURES):
        return None
    return number_of(int(year), int(month), int(day))


def written(form, number):
    """Tell the one text in which a number is written by a form."""
    if form[0] == "whole":
        return str(number)
    if form[0] == "amount":
        return written_amount(number, form[1])
    return written_day(number, form[1])


def written_amount(number, places):
    """Tell the text of so many least ones, with all places."""
    sign = "-" if number < 0 else ""
    figures = str(abs(number)).zfill(places + 1)
    return sign + figures[:-places] + "." + figures[-places:]


def written_day(number, order):
    """Tell the text of a day's number, its parts in an order."""
    year, month, day = date_of(number)
    parts = {"y": f"{year:04d}", "m": f"{month:02d}", "d": f"{day:02d}"}
    return "-".join([parts[part] for part in order])
