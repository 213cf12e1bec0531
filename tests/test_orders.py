import itertools
import math
import unittest

from cleanedtables.errors import NoOrder
from cleanedtables.orders import order_at, orders_of

NAMES = ("e", "b", "k", "a", "g", "j", "c", "i", "d", "l", "f", "h")


def program_of(names, behinds):
    """A program whose table "t" has wishes of these NAMEs, beside other tables."""
    sources = (("s", ("signs", ",", '"', ("x", "y"))),)
    steps = tuple((name, "given", "x") for name in names)
    other = ("u", ("of", "s"), (("a", "given", "x"), ("b", "given", "y")), (("a", "b"),))
    return (sources, (other, ("t", ("of", "s"), steps, behinds), ("v", ("of", "s"), (), ())))


def by_all_orders(names, behinds):
    """The orders that keep what must be behind, of all of them, as places rise."""
    kept = []
    for order in itertools.permutations(range(len(names))):
        told = [names[place] for place in order]
        if all(told.index(step) < told.index(other) for step, other in behinds):
            kept.append(tuple(told))
    return kept


class Orders(unittest.TestCase):

    def check(self, names, behinds):
        program = program_of(names, behinds)
        wanted = by_all_orders(names, behinds)
        self.assertEqual(orders_of(program, "t"), len(wanted))
        for which, order in enumerate(wanted):
            self.assertEqual(order_at(program, "t", which), order)
        for which in [len(wanted), len(wanted) + 1, -1, -len(wanted), 999999999, -999999999]:
            with self.assertRaises(NoOrder) as caught:
                order_at(program, "t", which)
            self.assertEqual(vars(caught.exception), {"which": which})

    def test_no_steps(self):
        program = program_of((), ())
        self.assertEqual(orders_of(program, "t"), 1)
        self.assertEqual(order_at(program, "t", 0), ())
        self.check((), ())

    def test_one_step(self):
        self.check(("b",), ())

    def test_steps_that_may_be_done_in_any_order(self):
        self.assertEqual(order_at(program_of(("b", "a"), ()), "t", 0), ("b", "a"))
        self.assertEqual(order_at(program_of(("b", "a"), ()), "t", 1), ("a", "b"))
        for many in range(2, 6):
            self.check(NAMES[:many], ())

    def test_steps_in_one_order_alone(self):
        self.check(("c", "a", "b"), (("a", "b"), ("c", "a")))
        self.check(("c", "a", "b"), (("a", "b"), ("c", "a"), ("c", "b")))

    def test_behind_all_behind_which_it_must_be(self):
        self.check(("c", "a", "b", "d"), (("a", "b"), ("c", "a")))
        self.check(("d", "c", "b", "a"), (("b", "a"), ("d", "b")))

    def test_all_behinds_of_four_steps(self):
        names = NAMES[:4]
        pairs = sorted(itertools.combinations(names, 2))
        for many in range(len(pairs) + 1):
            for behinds in itertools.combinations(pairs, many):
                self.check(names, behinds)

    def test_some_behinds_of_six_steps(self):
        names = NAMES[:6]
        pairs = sorted(itertools.combinations(names, 2))
        for first in range(0, 9):
            self.check(names, tuple(pairs[first::5]))

    def test_twelve_steps(self):
        program = program_of(NAMES, ())
        many = math.factorial(12)
        self.assertEqual(orders_of(program, "t"), many)
        self.assertEqual(order_at(program, "t", 0), NAMES)
        self.assertEqual(order_at(program, "t", 1), NAMES[:10] + (NAMES[11], NAMES[10]))
        self.assertEqual(order_at(program, "t", many - 1), NAMES[::-1])
        self.assertEqual(order_at(program, "t", math.factorial(11)), (NAMES[1], NAMES[0]) + NAMES[2:])
        self.assertRaises(NoOrder, order_at, program, "t", many)
        chain = tuple(sorted(zip(NAMES, NAMES[1:])))
        self.assertEqual(orders_of(program_of(NAMES, chain), "t"), 1)
        self.assertEqual(order_at(program_of(NAMES, chain), "t", 0), NAMES)

    def test_the_table_told_is_the_one_asked_for(self):
        program = program_of(("b", "a"), ())
        self.assertEqual(orders_of(program, "u"), 1)
        self.assertEqual(order_at(program, "u", 0), ("a", "b"))
        self.assertRaises(NoOrder, order_at, program, "u", 1)
        self.assertEqual(orders_of(program, "v"), 1)
        self.assertEqual(order_at(program, "v", 0), ())

    def test_steps_that_clash_have_orders_too(self):
        sources = (("s", ("named", ",", ("x",))),)
        steps = (("a", "put", "x", "p"), ("b", "put", "x", "q"))
        program = (sources, (("t", ("of", "s"), steps, ()),))
        self.assertEqual(orders_of(program, "t"), 2)
        self.assertEqual(order_at(program, "t", 1), ("b", "a"))

    def test_what_is_told(self):
        order = order_at(program_of(("b", "a"), ()), "t", 0)
        self.assertIs(type(order), tuple)

    def test_by_names_in_any_order(self):
        program = program_of(("b", "a"), ())
        self.assertEqual(orders_of(program=program, table="t"), 2)
        self.assertEqual(orders_of(table="t", program=program), 2)
        self.assertEqual(order_at(program=program, table="t", which=1), ("a", "b"))
        self.assertEqual(order_at(which=0, table="t", program=program), ("b", "a"))


if __name__ == "__main__":
    unittest.main()
