import itertools
import unittest

from cleanedtables.cells import add_row, put_cell
from cleanedtables.errors import NoCell, NoFit, NoRow
from cleanedtables.lines import cell_worth, lines_of
from cleanedtables.worths import is_worth
from tests.things import ODD_KINDS

AB = ("signs", ",", '"', ("a", "b"))
ONE = ("signs", ",", '"', ("a",))
PLACES = ("places", (3, 1, 4), ("a", "b", "c"))
NAMED = ("named", ",", ("a", "bb", "c"))


def texts(signs, longest):
    """All texts of these signs up to a length."""
    for many in range(longest + 1):
        for picked in itertools.product(signs, repeat=many):
            yield "".join(picked)


def worths_of(shape, text, number):
    """The worths of a row of a text."""
    return [cell_worth(cell[2]) for cell in lines_of(shape, text)[number][2]]


class Refusing(unittest.TestCase):

    def refuses(self, refusal, values, deed, *handed):
        """Look whether a deed is refused so, with values that are the very ones."""
        with self.assertRaises(refusal) as caught:
            deed(*handed)
        self.assertIs(type(caught.exception), refusal)
        told = vars(caught.exception)
        self.assertEqual(set(told), set(values))
        for field in values:
            self.assertIs(told[field], values[field])


class PutSigns(Refusing):

    def test_the_cell_alone_is_told_otherwise(self):
        text = ' x ,"y"\n\nq,r,s\n"z"",",\'\n'
        self.assertEqual(put_cell(AB, text, 0, "a", "new"), 'new,"y"\n\nq,r,s\n"z"",",\'\n')
        self.assertEqual(put_cell(AB, text, 0, "b", "new"), ' x ,new\n\nq,r,s\n"z"",",\'\n')
        self.assertEqual(put_cell(AB, text, 3, "a", "new"), ' x ,"y"\n\nq,r,s\nnew,\'\n')
        self.assertEqual(put_cell(AB, text, 3, "b", "new"), ' x ,"y"\n\nq,r,s\n"z"",",new\n')

    def test_a_text_without_a_line_feed_at_its_end_stays_without(self):
        self.assertEqual(put_cell(AB, "x,y", 0, "b", "z"), "x,z")
        self.assertEqual(put_cell(AB, "x,y\nz,", 1, "b", "w"), "x,y\nz,w")
        self.assertEqual(put_cell(AB, ",\n", 0, "a", "w"), "w,\n")

    def test_quoted_where_it_has_sign_or_quote(self):
        for worth, signs in [
                ("x", "x"), ("x y", "x y"), ("x,y", '"x,y"'), (",", '","'), ('"', '""""'),
                ('x"y', '"x""y"'), ('"x"', '"""x"""'), ('","', '""","""'), ("'", "'"),
                ("x;y", "x;y"), ("=", "="), ('""', '""""""')]:
            self.assertEqual(put_cell(AB, "p,q\n", 0, "a", worth), signs + ",q\n")
            self.assertEqual(put_cell(AB, "p,q", 0, "b", worth), "p," + signs)
            self.assertEqual(put_cell(ONE, "p\n", 0, "a", worth), signs + "\n")

    def test_each_sign_and_quote(self):
        for sign in ",;|:":
            for quote in "\"'":
                shape = ("signs", sign, quote, ("a", "b"))
                told = put_cell(shape, f"x{sign}y", 0, "b", f"p{sign}q")
                self.assertEqual(told, f"x{sign}{quote}p{sign}q{quote}")
                told = put_cell(shape, f"x{sign}y", 0, "a", f"p{quote}q")
                self.assertEqual(told, f"{quote}p{quote}{quote}q{quote}{sign}y")
                others = "".join(sorted({*",;|:\"'"} - {sign, quote}))
                self.assertEqual(put_cell(shape, f"x{sign}y", 0, "a", others), f"{others}{sign}y")

    def test_none_is_told_as_nothing(self):
        self.assertEqual(put_cell(AB, "x,y", 0, "a", None), ",y")
        self.assertEqual(put_cell(AB, '"x,",y', 0, "b", None), '"x,",')

    def test_none_is_told_as_two_quotes_where_there_is_one_column_alone(self):
        self.assertEqual(put_cell(ONE, "x", 0, "a", None), '""')
        self.assertEqual(put_cell(ONE, "x\ny\nz\n", 1, "a", None), 'x\n""\nz\n')
        self.assertEqual(put_cell(("signs", ";", "'", ("a",)), "\n", 0, "a", None), "''\n")
        self.assertEqual(worths_of(ONE, put_cell(ONE, "x", 0, "a", None), 0), [None])

    def test_odd_rows_are_refused(self):
        for row in ["x", "x,y,z", '"x,y', "", '"x"y,z']:
            for column in ["a", "b", "c"]:
                number = 1
                self.refuses(NoCell, {"number": number, "column": column},
                             put_cell, AB, f"p,q\n{row}\np,q\n", number, column, "w")
                self.assertEqual(put_cell(AB, f"p,q\n{row}\np,q\n", 2, "a", "w"),
                                 f"p,q\n{row}\nw,q\n")

    def test_all_short_texts_and_worths(self):
        worths = [None] + [worth for worth in texts('x,"', 3) if is_worth(worth)]
        for text in texts('x,"\n', 5):
            for number, line in enumerate(lines_of(AB, text)):
                if line[3] != "":
                    continue
                for place, column in enumerate("ab"):
                    for worth in worths[:12]:
                        self.check(text, number, line, place, column, worth)

    def check(self, text, number, line, place, column, worth):
        told = put_cell(AB, text, number, column, worth)
        begin, end, _ = line[2][place]
        self.assertTrue(told.startswith(text[:begin]))
        self.assertTrue(told.endswith(text[end:]))
        before, behind = lines_of(AB, text), lines_of(AB, told)
        self.assertEqual(len(before), len(behind))
        for at, (one, other) in enumerate(zip(before, behind)):
            self.assertEqual(one[3], other[3])
            for which, (cell, now) in enumerate(zip(one[2], other[2])):
                if (at, which) == (number, place):
                    self.assertEqual(now[2], "" if worth is None else worth)
                else:
                    self.assertEqual(text[cell[0]:cell[1]], told[now[0]:now[1]])
                    self.assertEqual(cell[2], now[2])


class PutPlaces(Refusing):

    def test_the_cell_alone_is_told_otherwise(self):
        text = "abcdefgh\n xyz 12 \n"
        self.assertEqual(put_cell(PLACES, text, 0, "a", "X"), "X  defgh\n xyz 12 \n")
        self.assertEqual(put_cell(PLACES, text, 0, "b", "X"), "abcXefgh\n xyz 12 \n")
        self.assertEqual(put_cell(PLACES, text, 1, "c", "X Y"), "abcdefgh\n xyzX Y \n")
        self.assertEqual(put_cell(PLACES, "abcdefgh", 0, "c", "9"), "abcd9   ")

    def test_none_is_told_as_blanks(self):
        self.assertEqual(put_cell(PLACES, "abcdefgh\n", 0, "a", None), "   defgh\n")
        self.assertEqual(put_cell(PLACES, "abcdefgh\n", 0, "b", None), "abc efgh\n")
        self.assertEqual(put_cell(PLACES, "abcdefgh", 0, "c", None), "abcd    ")
        self.assertEqual(put_cell(("places", (2,), ("a",)), "xy", 0, "a", None), "  ")

    def test_a_worth_as_wide_as_its_place_and_one_sign_wider(self):
        for column, place, width in [("a", 0, 3), ("b", 3, 1), ("c", 4, 4)]:
            wide = "9" * width
            text = put_cell(PLACES, "abcdefgh", 0, column, wide)
            self.assertEqual(text, "abcdefgh"[:place] + wide + "abcdefgh"[place + width:])
            worth = "9" * (width + 1)
            self.refuses(NoFit, {"worth": worth}, put_cell, PLACES, "abcdefgh", 0, column, worth)

    def test_a_short_row_is_filled_with_blanks(self):
        self.assertEqual(put_cell(PLACES, "\n", 0, "a", "x"), "x  \n")
        self.assertEqual(put_cell(PLACES, "\n", 0, "b", "x"), "   x\n")
        self.assertEqual(put_cell(PLACES, "\n", 0, "c", "x"), "    x   \n")
        self.assertEqual(put_cell(PLACES, "p", 0, "c", "x"), "p   x   ")
        self.assertEqual(put_cell(PLACES, "q\npq\nr", 1, "b", "x"), "q\npq x\nr")
        self.assertEqual(put_cell(PLACES, "pqr\n", 0, "b", "x"), "pqrx\n")
        self.assertEqual(put_cell(PLACES, "pqr\n", 0, "c", "x"), "pqr x   \n")
        self.assertEqual(put_cell(PLACES, "pqrs\n", 0, "c", "x"), "pqrsx   \n")
        self.assertEqual(put_cell(PLACES, "p", 0, "c", None), "p       ")

    def test_a_cell_that_the_row_ends_in(self):
        self.assertEqual(put_cell(PLACES, "pq\n", 0, "a", "x"), "x  \n")
        self.assertEqual(put_cell(PLACES, "pqrst\nz", 0, "c", "x"), "pqrsx   \nz")
        self.assertEqual(put_cell(PLACES, "pqrst\nz", 0, "b", "x"), "pqrxt\nz")

    def test_no_signs_are_quoted(self):
        self.assertEqual(put_cell(PLACES, "abcdefgh", 0, "c", '","='), 'abcd","=')

    def test_odd_rows_are_refused(self):
        for column in ["a", "b", "c", "d"]:
            self.refuses(NoCell, {"number": 1, "column": column},
                         put_cell, PLACES, "x\nabcdefghi\n", 1, column, "w")

    def test_all_short_rows(self):
        shape = ("places", (1, 2, 1), ("a", "b", "c"))
        for row in texts("x ", 4):
            for place, column in enumerate("abc"):
                for worth in [None, "p", "pq", "p,"]:
                    if worth is not None and len(worth) > shape[1][place]:
                        continue
                    told = put_cell(shape, f"w\n{row}\nv", 1, column, worth)
                    at = sum(shape[1][:place])
                    end = at + shape[1][place]
                    wanted = row[:at].ljust(at) + (worth or "").ljust(end - at) + row[end:]
                    self.assertEqual(told, f"w\n{wanted}\nv")


class PutNamed(Refusing):

    def test_the_cell_alone_is_told_otherwise(self):
        text = "bb= 2 ,a=1\n\nc=3\nx\n"
        self.assertEqual(put_cell(NAMED, text, 0, "a", "new"), "bb= 2 ,a=new\n\nc=3\nx\n")
        self.assertEqual(put_cell(NAMED, text, 0, "bb", "new"), "bb=new,a=1\n\nc=3\nx\n")
        self.assertEqual(put_cell(NAMED, text, 2, "c", "x=y"), "bb= 2 ,a=1\n\nc=x=y\nx\n")
        self.assertEqual(put_cell(NAMED, "a=b=c", 0, "a", "d"), "a=d")
        self.assertEqual(put_cell(NAMED, "a=1,c=3", 0, "a", '"'), 'a=",c=3')

    def test_none_is_told_as_nothing(self):
        self.assertEqual(put_cell(NAMED, "a=1,bb=2", 0, "a", None), "a=,bb=2")
        self.assertEqual(put_cell(NAMED, "a=1,bb=2\n", 0, "bb", None), "a=1,bb=\n")

    def test_a_cell_of_no_signs_stands(self):
        self.assertEqual(put_cell(NAMED, "a=,c=\n", 0, "a", "1"), "a=1,c=\n")
        self.assertEqual(put_cell(NAMED, "a=,c=\n", 0, "c", "1"), "a=,c=1\n")
        self.assertEqual(put_cell(NAMED, "x\nbb=", 1, "bb", "1"), "x\nbb=1")

    def test_a_worth_with_the_sign_does_not_fit(self):
        for sign in ",;|":
            shape = ("named", sign, ("a", "b"))
            others = "".join(sorted({*",;|:=\"'"} - {sign}))
            self.assertEqual(put_cell(shape, f"a=1{sign}b=2", 0, "a", others), f"a={others}{sign}b=2")
            for worth in [sign, f"x{sign}", f"{sign}x", f"x{sign}y"]:
                self.refuses(NoFit, {"worth": worth}, put_cell, shape, "a=1", 0, "a", worth)

    def test_a_column_that_does_not_stand_is_refused(self):
        for row in ["a=1,bb=2", "a=1", "", "bb="]:
            self.refuses(NoCell, {"number": 1, "column": "c"},
                         put_cell, NAMED, f"c=1\n{row}\nc=1\n", 1, "c", "w")
            self.assertEqual(put_cell(NAMED, f"c=1\n{row}\nc=1\n", 2, "c", "w"), f"c=1\n{row}\nc=w\n")

    def test_odd_rows_are_refused(self):
        for row in ["a", "a=1,", "a=1,x=2", "a=1,a=2", "a=1,,bb=2"]:
            self.refuses(NoCell, {"number": 0, "column": "a"}, put_cell, NAMED, row, 0, "a", "w")


class PutRefused(Refusing):

    CASES = [(AB, "x,y\nz,w\n"), (PLACES, "abc\nabcdefgh"), (NAMED, "a=1\na=2\n")]

    def test_numbers_that_no_row_has(self):
        for shape, text in self.CASES:
            for number in [-1, -2, 2, 3, 999999999, None, "", "0", "a", *ODD_KINDS]:
                self.refuses(NoRow, {"row": number}, put_cell, shape, text, number, "a", "w")
            self.assertNotEqual(put_cell(shape, text, 1, "a", "w"), text)

    def test_an_empty_text_has_no_row(self):
        for shape in [AB, PLACES, NAMED]:
            self.refuses(NoRow, {"row": 0}, put_cell, shape, "", 0, "a", "w")

    def test_truths_are_no_numbers(self):
        for shape, text in self.CASES:
            for number in [True, False]:
                self.refuses(NoRow, {"row": number}, put_cell, shape, text, number, "a", "w")

    def test_columns_of_anything(self):
        for shape, text in self.CASES:
            for column in [None, "", "A", "aa", "a ", "a,b", "x", 0, 1, -1, *ODD_KINDS]:
                self.refuses(NoCell, {"number": 0, "column": column},
                             put_cell, shape, text, 0, column, "w")

    def test_what_is_handed_in_stays(self):
        for shape, text in self.CASES:
            number, column = [0, ["a"]], {"a": [1, {"b": None}]}
            self.refuses(NoRow, {"row": number}, put_cell, shape, text, number, column, "w")
            self.refuses(NoCell, {"number": 0, "column": column},
                         put_cell, shape, text, 0, column, "w")
            self.assertEqual((number, column), ([0, ["a"]], {"a": [1, {"b": None}]}))

    def test_what_is_told_first_comes_first(self):
        for shape, text in [(PLACES, "abc\nabcdefghi"), (NAMED, "a=1\nx=1")]:
            worth = "w,w,w"
            self.refuses(NoRow, {"row": 2}, put_cell, shape, text, 2, [], worth)
            self.refuses(NoRow, {"row": None}, put_cell, shape, text, None, "a", worth)
            self.refuses(NoCell, {"number": 0, "column": "x"}, put_cell, shape, text, 0, "x", worth)
            self.refuses(NoCell, {"number": 1, "column": "a"}, put_cell, shape, text, 1, "a", worth)
            self.refuses(NoFit, {"worth": worth}, put_cell, shape, text, 0, "a", worth)
        self.refuses(NoCell, {"number": 0, "column": "bb"}, put_cell, NAMED, "a=1", 0, "bb", "w,")


class Add(Refusing):

    def test_line_feeds(self):
        for shape, worths, row in [
                (AB, ("x", "y"), "x,y"), (PLACES, ("x", None, "y"), "x   y   "),
                (NAMED, ("x", None, "y"), "a=x,c=y")]:
            self.assertEqual(add_row(shape, "", worths), f"{row}\n")
            self.assertEqual(add_row(shape, "\n", worths), f"\n{row}\n")
            self.assertEqual(add_row(shape, "p", worths), f"p\n{row}\n")
            self.assertEqual(add_row(shape, "p\n", worths), f"p\n{row}\n")
            self.assertEqual(add_row(shape, "p\n\n", worths), f"p\n\n{row}\n")
            self.assertEqual(add_row(shape, "p\n\nq", worths), f"p\n\nq\n{row}\n")

    def test_signs(self):
        for worths, row in [
                ((None, None), ","), (("x", None), "x,"), ((None, "x"), ",x"),
                (("x,y", 'p"q'), '"x,y","p""q"'), (("'", "x y"), "',x y"), (('"', ","), '"""",","')]:
            self.assertEqual(add_row(AB, "", worths), row + "\n")
        shape = ("signs", "|", "'", ("a", "b", "c"))
        self.assertEqual(add_row(shape, "", ("it's", "x|y", '"')), "'it''s'|'x|y'|\"\n")

    def test_signs_of_one_column_alone(self):
        self.assertEqual(add_row(ONE, "", (None,)), '""\n')
        self.assertEqual(add_row(ONE, "x", ("y",)), "x\ny\n")
        self.assertEqual(add_row(ONE, "", (",",)), '","\n')

    def test_places(self):
        for worths, row in [
                ((None, None, None), "        "), (("x", "y", "z"), "x  yz   "),
                (("abc", "d", "efgh"), "abcdefgh"), ((None, None, "z"), "    z   "),
                (("a,b", '"', "= |"), 'a,b"= | ')]:
            self.assertEqual(add_row(PLACES, "", worths), row + "\n")

    def test_named(self):
        for worths, row in [
                ((None, None, None), ""), (("x", "y", "z"), "a=x,bb=y,c=z"), ((None, "y", None), "bb=y"),
                ((None, None, "z"), "c=z"), (("=", '"', "p q"), 'a==,bb=",c=p q')]:
            self.assertEqual(add_row(NAMED, "", worths), row + "\n")
            self.assertEqual(add_row(NAMED, "a=1\n", worths), f"a=1\n{row}\n")
        self.assertEqual(add_row(NAMED, "", (None,) * 3), "\n")
        self.assertEqual(len(lines_of(NAMED, add_row(NAMED, "a=1", (None,) * 3))), 2)
        self.assertEqual(add_row(("named", "|", ("a", "b")), "", (",", ";")), "a=,|b=;\n")

    def test_the_first_worth_that_does_not_fit(self):
        self.refuses(NoFit, {"worth": "abcd"}, add_row, PLACES, "", ("abcd", "x", "y"))
        self.refuses(NoFit, {"worth": "pq"}, add_row, PLACES, "", (None, "pq", "abcde"))
        self.refuses(NoFit, {"worth": "abcde"}, add_row, PLACES, "", ("abc", "d", "abcde"))
        self.refuses(NoFit, {"worth": "p,q"}, add_row, NAMED, "", ("x", "p,q", ","))
        self.refuses(NoFit, {"worth": ","}, add_row, NAMED, "a=1\n", (None, None, ","))

    def test_what_is_added_is_read_as_it_was_told(self):
        told = [None] + [worth for worth in texts("x ,\"'", 2) if is_worth(worth)]
        for shape in [AB, ("signs", ":", "'", ("a", "b")), ("places", (2, 3), ("a", "b")),
                      ("named", ";", ("a", "b"))]:
            for worths in itertools.product(told, repeat=2):
                for text in ["", "x", "x\n", "\n\n"]:
                    added = add_row(shape, text, worths)
                    before, behind = lines_of(shape, text), lines_of(shape, added)
                    self.assertTrue(added.startswith(text))
                    self.assertTrue(added.endswith("\n"))
                    self.assertEqual(behind[:-1], before)
                    self.assertEqual(behind[-1][3], "")
                    self.assertEqual(worths_of(shape, added, -1), list(worths))
        for worth in told:
            added = add_row(ONE, "x", (worth,))
            self.assertEqual(worths_of(ONE, added, 1), [worth])


class ByNames(unittest.TestCase):

    def test_by_names_in_any_order(self):
        self.assertEqual(put_cell(shape=AB, text="x,y", number=0, column="a", worth="z"), "z,y")
        self.assertEqual(put_cell(worth="z", column="a", number=0, text="x,y", shape=AB), "z,y")
        self.assertEqual(put_cell(AB, "x,y", 0, worth=None, column="b"), "x,")
        self.assertEqual(add_row(shape=AB, text="", worths=("x", "y")), "x,y\n")
        self.assertEqual(add_row(worths=("x", "y"), text="", shape=AB), "x,y\n")


if __name__ == "__main__":
    unittest.main()
