import itertools
import re
import unittest

from cleanedtables.lines import cell_worth, lines_of

AB = ("signs", ",", '"', ("a", "b"))
ONE = ("signs", ",", '"', ("a",))
PLACES = ("places", (3, 1, 4), ("a", "b", "c"))
NAMED = ("named", ",", ("a", "bb", "c"))


def told(shape, text):
    """The texts of the cells of each row, or its reason."""
    lines = lines_of(shape, text)
    return [reason if reason else tuple(cell[2] for cell in cells) for _, _, cells, reason in lines]


def texts(signs, longest):
    """All texts of these signs up to a length."""
    for many in range(longest + 1):
        for picked in itertools.product(signs, repeat=many):
            yield "".join(picked)


CELL = re.compile(r'"((?:[^"]|"")*)"(?=,|\Z)|(?!")[^,]*')


def by_pattern(row):
    """The cells of a row of signs by a pattern, None where a quote is at fault."""
    cells = []
    at = 0
    while at <= len(row):
        match = CELL.match(row, at)
        if match is None:
            return None
        quoted = match.group(1)
        text = match.group() if quoted is None else quoted.replace('""', '"')
        cells.append((at, match.end(), text))
        at = match.end() + 1
    return tuple(cells)


class Rows(unittest.TestCase):

    def spans(self, shape, text):
        return [(begin, end) for begin, end, _, _ in lines_of(shape, text)]

    def test_an_empty_text_has_no_rows(self):
        for shape in [AB, ONE, PLACES, NAMED]:
            self.assertEqual(lines_of(shape, ""), ())

    def test_a_line_feed_at_the_end_ends_the_last_row(self):
        for shape in [AB, ONE, PLACES, NAMED]:
            self.assertEqual(self.spans(shape, "ab"), [(0, 2)])
            self.assertEqual(self.spans(shape, "ab\n"), [(0, 2)])
            self.assertEqual(self.spans(shape, "ab\n\n"), [(0, 2), (3, 3)])
            self.assertEqual(self.spans(shape, "\n"), [(0, 0)])
            self.assertEqual(self.spans(shape, "\n\n"), [(0, 0), (1, 1)])
            self.assertEqual(self.spans(shape, "\nab"), [(0, 0), (1, 3)])
            self.assertEqual(self.spans(shape, "a\nbcd\n\ne"), [(0, 1), (2, 5), (6, 6), (7, 8)])

    def test_an_empty_row_is_a_row(self):
        self.assertEqual(lines_of(ONE, "\n"), ((0, 0, ((0, 0, ""),), ""),))
        self.assertEqual(lines_of(AB, "\n"), ((0, 0, (), "few"),))
        self.assertEqual(lines_of(PLACES, "\n"), ((0, 0, ((0, 0, ""),) * 3, ""),))
        self.assertEqual(lines_of(NAMED, "\n"), ((0, 0, ((0, 0, ""),) * 3, ""),))
        self.assertEqual(lines_of(ONE, "x\n\ny"), (
            (0, 1, ((0, 1, "x"),), ""), (2, 2, ((2, 2, ""),), ""), (3, 4, ((3, 4, "y"),), "")))

    def test_kinds_of_what_is_told(self):
        for shape, text in [(AB, "x,y"), (PLACES, "abc"), (NAMED, "a=1"), (AB, "x"), (NAMED, "x")]:
            lines = lines_of(shape, text)
            self.assertIs(type(lines), tuple)
            self.assertEqual([type(part) for part in lines[0]], [int, int, tuple, str])
            for cell in lines[0][2]:
                self.assertEqual([type(part) for part in cell], [int, int, str])


class Signs(unittest.TestCase):

    def test_cells_and_their_places(self):
        self.assertEqual(lines_of(AB, "x,yy\n zz , \n"), (
            (0, 4, ((0, 1, "x"), (2, 4, "yy")), ""),
            (5, 11, ((5, 9, " zz "), (10, 11, " ")), "")))
        self.assertEqual(lines_of(AB, ","), ((0, 1, ((0, 0, ""), (1, 1, "")), ""),))

    def test_each_sign_and_quote(self):
        for sign in ",;|:":
            for quote in "\"'":
                shape = ("signs", sign, quote, ("a", "b"))
                text = f"x{sign}{quote}y{sign}{quote}{quote}z{quote}"
                self.assertEqual(told(shape, text), [("x", f"y{sign}{quote}z")])
                others = "".join(sorted({*",;|:\"'"} - {sign, quote}))
                self.assertEqual(told(shape, f"{others}{sign}{others}"), [(others, others)])

    def test_cells_in_quotes(self):
        self.assertEqual(lines_of(AB, 'q,r\n"x","y,z"'), (
            (0, 3, ((0, 1, "q"), (2, 3, "r")), ""),
            (4, 13, ((4, 7, "x"), (8, 13, "y,z")), "")))
        self.assertEqual(lines_of(AB, '"",""'), ((0, 5, ((0, 2, ""), (3, 5, "")), ""),))
        self.assertEqual(lines_of(ONE, '","'), ((0, 3, ((0, 3, ","),), ""),))
        self.assertEqual(told(ONE, '" x "'), [(" x ",)])

    def test_doubled_quotes(self):
        self.assertEqual(lines_of(ONE, '"x""y"'), ((0, 6, ((0, 6, 'x"y'),), ""),))
        self.assertEqual(told(ONE, '""""'), [('"',)])
        self.assertEqual(told(ONE, '""""""'), [('""',)])
        self.assertEqual(told(ONE, '"""x"""'), [('"x"',)])
        self.assertEqual(told(AB, '"x"",""y",z'), [('x","y', "z")])
        self.assertEqual(told(AB, '"x"","y"'), ["quote"])

    def test_a_quote_that_is_not_the_first_sign(self):
        self.assertEqual(told(AB, 'x"y, "z"'), [('x"y', ' "z"')])
        self.assertEqual(told(AB, 'x",y"'), [('x"', 'y"')])
        self.assertEqual(told(AB, 'x"",y'), [('x""', "y")])

    def test_the_other_quote_is_a_sign_as_others(self):
        self.assertEqual(told(AB, "'x','y'"), [("'x'", "'y'")])
        self.assertEqual(told(AB, "'x,y'"), [("'x", "y'")])

    def test_a_quote_without_an_end(self):
        for row in ['"', '"x', '"x,y', 'x,"', 'x,"y', '"""', '"x""', '"x"",y', '"""""', 'x,"y""']:
            self.assertEqual(lines_of(AB, row), ((0, len(row), (), "quote"),))

    def test_something_behind_the_quote(self):
        for row in ['"x"y,z', '"x" ,y', '""x,y', 'x,"y"z', 'x,"y" ', '"x"\'', '"x"""y"z,w']:
            self.assertEqual(told(AB, row), ["quote"])

    def test_a_quote_does_not_go_beyond_its_row(self):
        self.assertEqual(told(ONE, '"x\ny"'), ["quote", ('y"',)])
        self.assertEqual(told(ONE, 'x\n"y\nz'), [("x",), "quote", ("z",)])

    def test_few_and_many(self):
        self.assertEqual(told(AB, "x\nx,y\nx,y,z\n,\n,,\n"), ["few", ("x", "y"), "many", ("", ""), "many"])
        self.assertEqual(told(ONE, "x,y\nx\n,"), ["many", ("x",), "many"])
        self.assertEqual(told(AB, '"x,y"'), ["few"])

    def test_quote_comes_ahead_of_few_and_many(self):
        self.assertEqual(told(AB, '"x'), ["quote"])
        self.assertEqual(told(AB, 'x,y,z,"w'), ["quote"])
        self.assertEqual(told(AB, 'x,y,"z"w'), ["quote"])

    def test_all_short_rows(self):
        for row in texts('x,"', 8):
            cells = by_pattern(row)
            wanted = ((), "quote")
            if cells is not None and len(cells) == 2:
                wanted = (cells, "")
            elif cells is not None:
                wanted = ((), "few" if len(cells) < 2 else "many")
            self.assertEqual(lines_of(AB, f"{row}\n"), ((0, len(row), *wanted),))


class Places(unittest.TestCase):

    def test_cells_and_their_places(self):
        self.assertEqual(lines_of(PLACES, "abcdefgh\n  x y  z"), (
            (0, 8, ((0, 3, "abc"), (3, 4, "d"), (4, 8, "efgh")), ""),
            (9, 17, ((9, 12, "  x"), (12, 13, " "), (13, 17, "y  z")), "")))

    def test_rows_that_end_short_of_their_places(self):
        self.assertEqual(lines_of(PLACES, "x\nabcdef\nabc\nab\nabcd\n"), (
            (0, 1, ((0, 1, "x"), (1, 1, ""), (1, 1, "")), ""),
            (2, 8, ((2, 5, "abc"), (5, 6, "d"), (6, 8, "ef")), ""),
            (9, 12, ((9, 12, "abc"), (12, 12, ""), (12, 12, "")), ""),
            (13, 15, ((13, 15, "ab"), (15, 15, ""), (15, 15, "")), ""),
            (16, 20, ((16, 19, "abc"), (19, 20, "d"), (20, 20, "")), "")))

    def test_more_signs_than_all_widths(self):
        self.assertEqual(lines_of(PLACES, "abcdefghi"), ((0, 9, (), "many"),))
        self.assertEqual(told(PLACES, "        \n         "), [("   ", " ", "    "), "many"])
        self.assertEqual(told(("places", (2,), ("a",)), "x\nxy\nxyz"), [("x",), ("xy",), "many"])

    def test_no_sign_parts_or_quotes(self):
        self.assertEqual(told(PLACES, '",=\'"|":'), [('",=', "'", '"|":')])


class Named(unittest.TestCase):

    def test_cells_and_their_places(self):
        self.assertEqual(lines_of(NAMED, "a=1,bb=22,c=\nc=x y,a= ,bb=z"), (
            (0, 12, ((2, 3, "1"), (7, 9, "22"), (12, 12, "")), ""),
            (13, 27, ((21, 22, " "), (26, 27, "z"), (15, 18, "x y")), "")))

    def test_columns_that_do_not_stand(self):
        self.assertEqual(lines_of(NAMED, "bb=2"), ((0, 4, ((4, 4, ""), (3, 4, "2"), (4, 4, "")), ""),))
        self.assertEqual(lines_of(NAMED, "x\nc="), (
            (0, 1, (), "form"), (2, 4, ((4, 4, ""), (4, 4, ""), (4, 4, "")), "")))

    def test_the_first_equals_parts(self):
        self.assertEqual(lines_of(NAMED, "a=b=c,c=="), (
            (0, 9, ((2, 5, "b=c"), (9, 9, ""), (8, 9, "=")), ""),))

    def test_each_sign(self):
        for sign in ",;|":
            shape = ("named", sign, ("a", "b"))
            others = "".join(sorted({*",;|:\"'"} - {sign}))
            self.assertEqual(told(shape, f"b={others}{sign}a=1"), [("1", others)])

    def test_no_quotes(self):
        self.assertEqual(told(NAMED, "a=\"x\",bb='y'"), [('"x"', "'y'", "")])
        self.assertEqual(told(NAMED, 'a="x,y"'), ["form"])

    def test_no_equals(self):
        for row in ["a", "a=1,", ",a=1", ",", "a=1,,c=2", " ", "a=1,bb", "x,x=1,a=1,a=2"]:
            self.assertEqual(lines_of(NAMED, row), ((0, len(row), (), "form"),))

    def test_no_column_of_the_shape(self):
        for row in ["x=1", "=1", "=", "A=1", " a=1", "a =1", "b=1", "bbb=1", "a=1,x=2", "a=1, bb=2"]:
            self.assertEqual(lines_of(NAMED, row), ((0, len(row), (), "name"),))

    def test_twice(self):
        for row in ["a=1,a=1", "a=,a=", "a=1,bb=2,c=3,a=4", "bb=1,bb=2,x=1", "c=1,c=2,c"]:
            self.assertEqual(lines_of(NAMED, row), ((0, len(row), (), "twice"),))

    def test_the_first_cell_at_fault_gives_the_reason(self):
        self.assertEqual(told(NAMED, "a=1,x=2,a=3,c"), ["name"])
        self.assertEqual(told(NAMED, "a=1,a=2,x=3,c"), ["twice"])
        self.assertEqual(told(NAMED, "a=1,c,x=2,a=3"), ["form"])
        self.assertEqual(told(NAMED, "x=1,x=2,y"), ["name"])


class CellWorth(unittest.TestCase):

    def test_worths(self):
        for text, worth in [
                ("x", "x"), (" x", "x"), ("x ", "x"), ("  x y  ", "x y"), ("x  y", "x  y"),
                ("", None), (" ", None), ("    ", None), ('"', '"'), ("0", "0"), (" 0 ", "0"),
                ("None", "None"), ("-", "-")]:
            self.assertEqual(cell_worth(text), worth)

    def test_blanks_alone_are_left_out(self):
        for code in range(ord("!"), ord("~") + 1):
            sign = chr(code)
            self.assertEqual(cell_worth(f" {sign} "), sign)
            self.assertEqual(cell_worth(f"{sign} x {sign}"), f"{sign} x {sign}")

    def test_by_name(self):
        self.assertEqual(cell_worth(text=" x "), "x")


class ByNames(unittest.TestCase):

    def test_by_names_in_any_order(self):
        wanted = ((0, 3, ((0, 1, "x"), (2, 3, "y")), ""),)
        self.assertEqual(lines_of(shape=AB, text="x,y"), wanted)
        self.assertEqual(lines_of(text="x,y", shape=AB), wanted)


if __name__ == "__main__":
    unittest.main()
