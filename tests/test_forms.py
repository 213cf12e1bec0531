import datetime
import unittest

from cleanedtables.forms import is_form, read_as, written
from tests.things import ODD_KINDS, Agreeing, Stubborn

WHOLE = ("whole",)
ORDERS = ("ymd", "dmy", "mdy")
FORMS = [WHOLE] + [("amount", places) for places in (1, 2, 3, 4)] + [("day", o) for o in ORDERS]
LAST_DAY = datetime.date(9999, 12, 31).toordinal() - 1


def day_text(order, sign, year, month, day):
    """The text of a day's parts, each as text, in an order."""
    parts = {"y": year, "m": month, "d": day}
    return sign.join(parts[part] for part in order)


class IsForm(unittest.TestCase):

    def test_forms(self):
        for form in FORMS:
            self.assertIs(is_form(form), True)

    def test_no_forms(self):
        for thing in [
                None, "", "whole", "day", 0, 1, ("whole", 1), ("whole", None), ("whole", "whole"),
                ("Whole",), ("wholes",), ("",), ("amount",), ("amount", 0), ("amount", 5),
                ("amount", -1), ("amount", "1"), ("amount", None), ("amount", 1, 1),
                ("amount", (1,)), ("day",), ("day", ""), ("day", "ydm"), ("day", "YMD"),
                ("day", "y"), ("day", "ym"), ("day", "ymd", "dmy"), ("day", 1), ("day", None),
                ("day", ("ymd",)), ("day", ("y", "m", "d")), ("", "ymd"), ("days", "ymd"),
                (1, "ymd"), (None, 1), ("ymd",), ("signs", ",", '"', ("a",))]:
            self.assertIs(is_form(thing), False)

    def test_truths_are_no_numbers_and_lists_no_tuples(self):
        for thing in [
                ("amount", True), ("amount", False), ["whole"], ["amount", 1], ["day", "ymd"],
                ("amount", [1]), ("day", ["ymd"]), ("day", list("ymd")), (["day"], "ymd"),
                (b"whole",), ("day", b"ymd"), ("amount", 1 + 0j)]:
            self.assertIs(is_form(thing), False)

    def test_things_of_any_kind(self):
        for thing in ODD_KINDS:
            self.assertIs(is_form(thing), False)
            for word in ["whole", "amount", "day"]:
                self.assertIs(is_form((word, thing)), False)
            self.assertIs(is_form((thing, "ymd")), False)
        self.assertIs(is_form((Agreeing(),)), False)
        self.assertIs(is_form(("day", Stubborn())), False)

    def test_by_name(self):
        self.assertIs(is_form(thing=WHOLE), True)
        self.assertIs(is_form(thing=None), False)


class ReadWhole(unittest.TestCase):

    def test_numbers(self):
        for text, number in [
                ("0", 0), ("7", 7), ("+7", 7), ("-7", -7), ("-0", 0), ("+0", 0), ("007", 7),
                ("-007", -7), ("000000000", 0), ("123456789", 123456789), ("999999999", 999999999),
                ("+999999999", 999999999), ("-999999999", -999999999), ("000000001", 1)]:
            self.assertEqual(read_as(WHOLE, text), number)
            self.assertIs(type(read_as(WHOLE, text)), int)

    def test_one_to_nine_figures_and_one_more(self):
        for many in range(1, 10):
            self.assertEqual(read_as(WHOLE, "9" * many), int("9" * many))
        for text in ["1234567890", "+1234567890", "-1234567890", "0000000000", "1" * 200]:
            self.assertIsNone(read_as(WHOLE, text))

    def test_texts_that_are_no_number(self):
        for text in [
                "", "+", "-", "--1", "+-1", "-+1", "1-", "1+", " 1", "1 ", "1 2", "- 1", "1.",
                "1.0", ".1", ".", "1,000", "1_000", "a", "1a", "a1", "0x1", "1e3", "one", "None",
                "1\n", "\n1", "1\n2", "\n", " ", "(1)", "2000-01-01"]:
            self.assertIsNone(read_as(WHOLE, text), text)


class ReadAmount(unittest.TestCase):

    def test_numbers(self):
        for places, text, number in [
                (1, "0", 0), (1, "1", 10), (1, "1.5", 15), (1, "-1.5", -15), (1, "+1.5", 15),
                (2, "1", 100), (2, "1.5", 150), (2, "1.05", 105), (2, "1.50", 150),
                (2, "-0.05", -5), (2, "-0.5", -50), (2, "+0.05", 5), (2, "-0", 0), (2, "-0.00", 0),
                (2, "007.10", 710), (3, "1.5", 1500), (3, "1.005", 1005), (3, "12", 12000),
                (4, "1", 10000), (4, "0.0001", 1), (4, "-0.0001", -1), (4, "1.02", 10200),
                (4, "99999999.9999", 999999999999), (4, "-99999999.9999", -999999999999),
                (1, "99999999", 999999990), (2, "00000001", 100)]:
            self.assertEqual(read_as(("amount", places), text), number, text)

    def test_figures_behind_the_point_up_to_places(self):
        for places in (1, 2, 3, 4):
            for many in range(1, 7):
                told = read_as(("amount", places), "3." + "1" * many)
                wanted = int("3" + ("1" * many).ljust(places, "0")) if many <= places else None
                self.assertEqual(told, wanted)

    def test_one_to_eight_figures_and_one_more(self):
        for many in range(1, 9):
            self.assertEqual(read_as(("amount", 2), "9" * many), int("9" * many) * 100)
            self.assertEqual(read_as(("amount", 2), "9" * many + ".1"), int("9" * many) * 100 + 10)
        for text in ["123456789", "000000001", "+123456789", "-123456789.5", "123456789.50"]:
            self.assertIsNone(read_as(("amount", 2), text))

    def test_texts_that_are_no_number(self):
        for text in [
                "", "+", "-", ".", "1.", ".5", "-.5", "+.5", "-1.", "1..5", "1.5.", "1.5.5", ".1.5",
                "1.-5", "1.+5", "1. 5", "1 .5", " 1.5", "1.5 ", "1,5", "1.a", "a.1", "--1.5",
                "1.5-", "1.500", "1.5\n", "\n1.5", "None"]:
            self.assertIsNone(read_as(("amount", 2), text), text)


class ReadDay(unittest.TestCase):

    def test_days_by_each_order_and_sign(self):
        wanted = datetime.date(2024, 3, 5).toordinal() - 1
        for sign in "-./":
            for month in ["3", "03"]:
                for day in ["5", "05"]:
                    for order in ORDERS:
                        text = day_text(order, sign, "2024", month, day)
                        self.assertEqual(read_as(("day", order), text), wanted, text)

    def test_each_order_reads_its_own(self):
        self.assertEqual(read_as(("day", "dmy"), "02/01/0001"), 1)
        self.assertEqual(read_as(("day", "mdy"), "02/01/0001"), 31)
        self.assertIsNone(read_as(("day", "ymd"), "02/01/0001"))
        self.assertIsNone(read_as(("day", "dmy"), "0001-01-02"))
        self.assertIsNone(read_as(("day", "mdy"), "31.12.1999"))
        self.assertIsNone(read_as(("day", "dmy"), "12.31.1999"))

    def test_the_first_and_the_last_year(self):
        self.assertEqual(read_as(("day", "ymd"), "0001-01-01"), 0)
        self.assertEqual(read_as(("day", "ymd"), "0001-1-2"), 1)
        self.assertEqual(read_as(("day", "ymd"), "0001-12-31"), 364)
        self.assertEqual(read_as(("day", "ymd"), "0002-01-01"), 365)
        self.assertEqual(read_as(("day", "ymd"), "9999-12-31"), LAST_DAY)
        for text in ["0000-01-01", "0000-12-31", "10000-01-01", "1-01-01", "99-01-01", "999-1-1"]:
            self.assertIsNone(read_as(("day", "ymd"), text))

    def test_february_of_each_year(self):
        for year in range(1, 10000):
            first = datetime.date(year, 2, 1).toordinal() - 1
            leap = year % 4 == 0 and (year % 100 != 0 or year % 400 == 0)
            told = [read_as(("day", "ymd"), f"{year:04d}-2-{day}") for day in (28, 29, 30)]
            self.assertEqual(told, [first + 27, first + 28 if leap else None, None])

    def test_february_by_years_that_four_a_hundred_and_four_hundred_divide(self):
        for year, leap in [
                (4, True), (100, False), (400, True), (1899, False), (1900, False), (1904, True),
                (2000, True), (2023, False), (2024, True), (2100, False), (2400, True)]:
            told = read_as(("day", "ymd"), f"{year:04d}-02-29")
            self.assertEqual(told is not None, leap)
            self.assertIsNotNone(read_as(("day", "ymd"), f"{year:04d}-02-28"))

    def test_days_that_are_not_there(self):
        lengths = [31, 28, 31, 30, 31, 30, 31, 31, 30, 31, 30, 31]
        for month, length in enumerate(lengths, start=1):
            for day in range(0, 100):
                told = read_as(("day", "dmy"), f"{day}.{month}.2023")
                self.assertEqual(told is not None, 1 <= day <= length)
        for month in [0, 13, 14, 20, 99]:
            self.assertIsNone(read_as(("day", "dmy"), f"01.{month:02d}.2023"))
        self.assertIsNone(read_as(("day", "dmy"), "1.0.2023"))

    def test_texts_that_are_no_day(self):
        for text in [
                "", "-", "--", "2024", "2024-03", "2024-03-", "-03-05", "2024--05", "2024-03-05-",
                "-2024-03-05", "+2024-03-05", "2024-03-05-01", "2024-003-05", "2024-03-005",
                "2024-+3-05", "2024-3-+5", "2024- 3-05", " 2024-03-05", "2024-03-05 ",
                "2024-ab-05", "2024-03-ab", "abcd-03-05", "2024-03-0a", "20240305", "2024 03 05",
                "2024,03,05", "2024:03:05", "2024_03_05", "2024-03-05\n", "024-03-05",
                "12024-03-05", "2024--03--05", "2024-/03-/05"]:
            self.assertIsNone(read_as(("day", "ymd"), text), text)

    def test_two_unlike_signs(self):
        for one in "-./":
            for other in "-./":
                told = read_as(("day", "ymd"), f"2024{one}03{other}05")
                self.assertEqual(told is not None, one == other)


class Written(unittest.TestCase):

    def test_wholes(self):
        for number, text in [
                (0, "0"), (7, "7"), (-7, "-7"), (10, "10"), (999999999, "999999999"),
                (-999999999, "-999999999")]:
            self.assertEqual(written(WHOLE, number), text)

    def test_amounts(self):
        for places, number, text in [
                (1, 0, "0.0"), (1, 5, "0.5"), (1, -5, "-0.5"), (1, 15, "1.5"), (2, 0, "0.00"),
                (2, 5, "0.05"), (2, -5, "-0.05"), (2, 50, "0.50"), (2, 100, "1.00"),
                (2, -12345, "-123.45"), (3, 7, "0.007"), (4, 1, "0.0001"), (4, 10000, "1.0000"),
                (4, 999999999999, "99999999.9999"), (4, -999999999999, "-99999999.9999")]:
            self.assertEqual(written(("amount", places), number), text)

    def test_days(self):
        number = datetime.date(2024, 3, 5).toordinal() - 1
        self.assertEqual(written(("day", "ymd"), number), "2024-03-05")
        self.assertEqual(written(("day", "dmy"), number), "05-03-2024")
        self.assertEqual(written(("day", "mdy"), number), "03-05-2024")
        self.assertEqual(written(("day", "ymd"), 0), "0001-01-01")
        self.assertEqual(written(("day", "dmy"), 364), "31-12-0001")
        self.assertEqual(written(("day", "mdy"), LAST_DAY), "12-31-9999")

    def test_what_is_written_of_a_number_is_read_as_it(self):
        near = list(range(-1200, 1201)) + [99999999, -99999999, 10 ** 8 - 7, 12345678]
        for form in FORMS[:5]:
            for number in near:
                text = written(form, number)
                self.assertEqual(read_as(form, text), number)
                self.assertFalse(text.startswith("+"))
                whole = text.lstrip("-").partition(".")[0]
                self.assertEqual(whole, str(int(whole)))

    def test_what_is_written_of_a_day_is_read_as_it(self):
        years = [1, 2, 4, 5, 100, 101, 400, 401, 1900, 1999, 2000, 2001, 2024, 9999]
        for year in years:
            first = datetime.date(year, 1, 1).toordinal() - 1
            for number in range(first, min(first + 368, LAST_DAY + 1)):
                date = datetime.date.fromordinal(number + 1)
                parts = (f"{date.year:04d}", f"{date.month:02d}", f"{date.day:02d}")
                for order in ORDERS:
                    text = written(("day", order), number)
                    self.assertEqual(text, day_text(order, "-", *parts))
                    self.assertEqual(read_as(("day", order), text), number)

    def test_the_first_and_the_last_day_of_each_year(self):
        for year in range(1, 10000):
            first = datetime.date(year, 1, 1).toordinal() - 1
            last = datetime.date(year, 12, 31).toordinal() - 1
            self.assertEqual(written(("day", "ymd"), first), f"{year:04d}-01-01")
            self.assertEqual(written(("day", "ymd"), last), f"{year:04d}-12-31")

    def test_one_text_for_each_number(self):
        self.assertEqual(written(WHOLE, read_as(WHOLE, "+007")), "7")
        self.assertEqual(written(WHOLE, read_as(WHOLE, "-0")), "0")
        self.assertEqual(written(("amount", 2), read_as(("amount", 2), "-00.5")), "-0.50")
        self.assertEqual(written(("amount", 2), read_as(("amount", 2), "-0")), "0.00")
        self.assertEqual(written(("day", "dmy"), read_as(("day", "dmy"), "1/2/0034")), "01-02-0034")


class ByNames(unittest.TestCase):

    def test_by_names_in_any_order(self):
        self.assertEqual(read_as(form=WHOLE, text="12"), 12)
        self.assertEqual(read_as(text="x", form=WHOLE), None)
        self.assertEqual(written(form=("amount", 1), number=12), "1.2")
        self.assertEqual(written(number=12, form=WHOLE), "12")


if __name__ == "__main__":
    unittest.main()
