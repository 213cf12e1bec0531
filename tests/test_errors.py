import inspect
import unittest

from cleanedtables import errors
from cleanedtables.errors import (
    Clash, Lost, NoCell, NoDeed, NoFit, NoLine, NoOrder, NoRow, NoSource, NoTable, NoText,
    NoThing, NotSuch, Shut)
from tests.things import ODD_KINDS

FAMILIES = {NotSuch: ValueError, Lost: LookupError, Shut: RuntimeError}
REFUSALS = [
    (NoFit, NotSuch, ("worth",)),
    (NoText, NotSuch, ("row",)),
    (NoLine, NotSuch, ("line",)),
    (NoRow, Lost, ("row",)),
    (NoCell, Lost, ("number", "column")),
    (NoOrder, Lost, ("which",)),
    (NoThing, Lost, ("thing",)),
    (NoSource, Lost, ("source",)),
    (NoTable, Lost, ("table",)),
    (NoDeed, Lost, ()),
    (Clash, Shut, ("table", "step", "other", "what")),
]


class Families(unittest.TestCase):

    def test_each_family_stands_straight_under_its_error(self):
        for family, above in FAMILIES.items():
            self.assertEqual(family.__bases__, (above,))

    def test_no_family_is_under_another(self):
        for family in FAMILIES:
            for other in FAMILIES:
                self.assertEqual(issubclass(family, other), family is other)

    def test_a_family_is_made_alone(self):
        for family, above in FAMILIES.items():
            with self.assertRaises(above):
                raise family()


class Refusals(unittest.TestCase):

    def test_there_are_eleven_and_three_families(self):
        classes = [thing for _, thing in inspect.getmembers(errors, inspect.isclass)]
        told = [refusal for refusal, _, _ in REFUSALS] + list(FAMILIES)
        self.assertEqual(len(REFUSALS), 11)
        self.assertEqual(set(classes), set(told))
        self.assertEqual({thing.__module__ for thing in told}, {"cleanedtables.errors"})

    def test_each_stands_straight_under_its_family_alone(self):
        for refusal, family, _ in REFUSALS:
            self.assertEqual(refusal.__bases__, (family,))
            self.assertEqual([f for f in FAMILIES if issubclass(refusal, f)], [family])
            above = [FAMILIES[f] for f in FAMILIES if issubclass(refusal, FAMILIES[f])]
            self.assertEqual(above, [FAMILIES[family]])

    def test_values_by_their_places(self):
        for refusal, family, fields in REFUSALS:
            with self.assertRaises(family) as caught:
                raise refusal(*[f"told {field}" for field in fields])
            self.assertIs(caught.exception.__class__, refusal)
            self.check_values(caught.exception, fields)

    def test_values_by_their_names_in_any_order(self):
        for refusal, family, fields in REFUSALS:
            with self.assertRaises(family) as caught:
                raise refusal(**{field: f"told {field}" for field in reversed(fields)})
            self.assertIs(caught.exception.__class__, refusal)
            self.check_values(caught.exception, fields)

    def check_values(self, made, fields):
        self.assertEqual(vars(made), {field: f"told {field}" for field in fields})

    def test_made_with_anything(self):
        for refusal, _, fields in REFUSALS:
            for thing in ODD_KINDS + [None, 0, -1, "", "a"]:
                by_places = refusal(*[thing for _ in fields])
                by_names = refusal(**{field: thing for field in fields})
                for field in fields:
                    self.assertIs(getattr(by_places, field), thing)
                    self.assertIs(getattr(by_names, field), thing)

    def test_as_many_values_as_told(self):
        for refusal, _, fields in REFUSALS:
            if fields:
                self.assertRaises(TypeError, refusal)
                self.assertRaises(TypeError, refusal, *range(len(fields) + 1))


if __name__ == "__main__":
    unittest.main()
