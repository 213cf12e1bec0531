import unittest

from cleanedtables.worths import is_worth, rank
from tests.things import ODD_KINDS

SIGNS = [chr(code) for code in range(ord("!"), ord("~") + 1) if code != 37]


class IsWorth(unittest.TestCase):

    def test_none_and_whole_numbers(self):
        for thing in [None, 0, 1, -1, 999999999, -999999999, 10 ** 12]:
            self.assertIs(is_worth(thing), True)

    def test_texts(self):
        for thing in ["a", "a b", "a  b", ".", "-", "0", '"', "''", "a" * 20, "a" * 200, "None"]:
            self.assertIs(is_worth(thing), True)

    def test_each_sign_but_the_blank_may_stand_anywhere(self):
        for sign in SIGNS:
            for thing in [sign, f"{sign}a", f"a{sign}", f"{sign} a {sign}"]:
                self.assertIs(is_worth(thing), True)

    def test_texts_that_are_none(self):
        for thing in ["", " ", "   ", " a", "a ", "  a b", "a b  ", "\n", "a\nb", "\na", "a\n"]:
            self.assertIs(is_worth(thing), False)

    def test_things_of_any_other_kind(self):
        for thing in ODD_KINDS:
            self.assertIs(is_worth(thing), False)

    def test_by_name(self):
        self.assertIs(is_worth(thing="a"), True)
        self.assertIs(is_worth(thing=[]), False)


class Rank(unittest.TestCase):

    def test_ranks(self):
        self.assertEqual(rank(None), (0, 0))
        self.assertEqual(rank("a"), (1, "a"))
        self.assertEqual(rank(0), (1, 0))
        self.assertEqual(rank(-5), (1, -5))

    def test_none_stands_ahead_of_all(self):
        self.assertEqual(sorted([3, None, -999999999, 0], key=rank), [None, -999999999, 0, 3])
        self.assertEqual(sorted(["b", "B", None, "!"], key=rank), [None, "!", "B", "b"])

    def test_by_name(self):
        self.assertEqual(rank(worth="a"), (1, "a"))


if __name__ == "__main__":
    unittest.main()
