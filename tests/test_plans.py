"""Plans: points [120] to [123] and [126]."""

import random
import unittest

from plinth.errors import BadPlan
from plinth.plans import check_plan, needs, order_of, part_of, users
from tests.helpers import SMALL

EXAMPLE = [("b", "copy", ("a", "text")), ("a", "copy", ("text",))]
GIVEN = {"copy": [0, 44, 0, 1], "text": [5, 6]}
PLAN = [("e", "d", ("c", "c")), ("d", "x", ("b",)), ("c", "x", ("a", "y", "a")), ("b", "x", ()), ("a", "y", ()),
        ("f", "x", ("y",)), ("g", "f", ())]
ITEMS = {"x": [], "y": [1], "z": [2]}


def long_plan(size):
    """A plan whose rules stand in the opposite order, with its given items."""
    names = [a + b + c for a in SMALL for b in SMALL for c in SMALL][:size + 1]
    return [(names[at], names[at + 1], (names[at + 1],)) for at in range(size)], {names[size]: []}


class CheckTest(unittest.TestCase):
    def bad(self, name, plan, given):
        calls = [check_plan, order_of, lambda p, g: needs(p, g, "q"), lambda p, g: users(p, g, "q"),
                 lambda p, g: part_of(p, g, ["q"])]
        for call in calls:
            with self.assertRaises(BadPlan, msg=plan) as caught:
                call(plan, given)
            self.assertEqual(name, caught.exception.name, plan)

    def test_valid(self):
        self.assertIsNone(check_plan(EXAMPLE, GIVEN))
        self.assertIsNone(check_plan(PLAN, ITEMS))
        self.assertIsNone(check_plan([], {}))
        self.assertIsNone(check_plan([], ITEMS))
        self.assertIsNone(check_plan(*long_plan(3000)))

    def test_targets(self):
        self.bad("a", [("b", "x", ()), ("a", "x", ())], {"a": [], "x": []})
        self.bad("a", [("a", "x", ()), ("b", "x", ()), ("a", "y", ())], ITEMS)
        self.bad("x", [("a", "y", ()), ("x", "y", ()), ("a", "y", ())], ITEMS)
        self.bad("a", [("a", "y", ()), ("a", "y", ()), ("x", "y", ())], ITEMS)

    def test_targets_before_everything_else(self):
        self.bad("x", [("a", "none", ("a",)), ("x", "y", ())], ITEMS)
        self.bad("a", [("a", "a", ("none",)), ("a", "y", ())], ITEMS)

    def test_tools_and_sources(self):
        self.bad("tool", [("a", "tool", ("source",))], ITEMS)
        self.bad("one", [("a", "x", ("y", "one", "two"))], ITEMS)
        self.bad("none", [("a", "b", ("y",)), ("b", "x", ("none",)), ("c", "more", ())], ITEMS)
        self.bad("x", [("a", "x", ())], {})

    def test_tools_and_sources_before_circles(self):
        self.bad("none", [("a", "a", ()), ("b", "x", ("none",))], ITEMS)

    def test_circles(self):
        self.bad("a", [("a", "a", ())], ITEMS)
        self.bad("a", [("b", "x", ()), ("a", "x", ("b", "a"))], ITEMS)
        self.bad("b", [("b", "x", ("a",)), ("a", "b", ())], ITEMS)
        self.bad("c", [("z", "x", ()), ("c", "x", ("d",)), ("d", "e", ()), ("e", "x", ("z", "c"))], {"x": []})

    def test_the_first_rule_that_depends_on_itself(self):
        # `a` depends on a circle, but not on itself.
        self.bad("b", [("a", "b", ()), ("b", "x", ("c",)), ("c", "b", ())], ITEMS)
        self.bad("d", [("a", "b", ()), ("d", "d", ()), ("b", "x", ("c",)), ("c", "b", ())], ITEMS)

    def test_long_circle(self):
        plan, given = long_plan(1000)
        name, tool, _ = plan[-1]
        self.bad(plan[0][0], plan[:-1] + [(name, tool, (plan[0][0],))], given)


class OrderTest(unittest.TestCase):
    def test_example(self):
        self.assertEqual(["a", "b"], order_of(EXAMPLE, GIVEN))

    def test_orders(self):
        self.assertEqual([], order_of([], ITEMS))
        self.assertEqual(["b", "d", "a", "c", "e", "f", "g"], order_of(PLAN, ITEMS))
        self.assertEqual(["c", "b", "a"], order_of([("c", "x", ()), ("b", "x", ()), ("a", "x", ())], ITEMS))
        # Behind each target the search begins with the first rule again.
        plan = [("a", "x", ("c",)), ("b", "x", ("d",)), ("c", "x", ()), ("d", "x", ("a",)), ("e", "x", ())]
        self.assertEqual(["c", "a", "d", "b", "e"], order_of(plan, ITEMS))

    def test_long_plan(self):
        plan, given = long_plan(3000)
        self.assertEqual([rule[0] for rule in reversed(plan)], order_of(plan, given))

    def test_words_of_the_document(self):
        source = random.Random(123)
        for _ in range(300):
            plan = some_plan(source)
            order = []
            while len(order) < len(plan):
                order.append([target for target, tool, sources in plan if target not in order and
                              all(name in ITEMS or name in order for name in (tool,) + sources)][0])
            self.assertEqual(order, order_of(plan, ITEMS))


def some_plan(source):
    """A valid plan for ITEMS."""
    names = list("abcdefghijkl")
    source.shuffle(names)
    plan = []
    for at, name in enumerate(names[:source.randrange(12)]):
        pool = names[:at] + list(ITEMS)
        plan.append((name, source.choice(pool), tuple(source.choice(pool) for _ in range(source.randrange(4)))))
    source.shuffle(plan)
    return plan


class DependenceTest(unittest.TestCase):
    def test_example(self):
        self.assertEqual(["a", "copy", "text"], needs(EXAMPLE, GIVEN, "b"))
        self.assertEqual(["copy", "text"], needs(EXAMPLE, GIVEN, "a"))
        self.assertEqual(["a", "b"], users(EXAMPLE, GIVEN, "text"))
        self.assertEqual(["b"], users(EXAMPLE, GIVEN, "a"))

    def test_needs(self):
        self.assertEqual(["a", "b", "c", "d", "x", "y"], needs(PLAN, ITEMS, "e"))
        self.assertEqual(["a", "x", "y"], needs(PLAN, ITEMS, "c"))
        self.assertEqual(["x"], needs(PLAN, ITEMS, "b"))
        for name in ITEMS:
            self.assertEqual([], needs(PLAN, ITEMS, name))

    def test_users(self):
        self.assertEqual(["b", "c", "d", "e", "f", "g"], users(PLAN, ITEMS, "x"))
        self.assertEqual(["a", "c", "e", "f", "g"], users(PLAN, ITEMS, "y"))
        self.assertEqual(["e"], users(PLAN, ITEMS, "d"))
        for name in ("z", "e", "g"):
            self.assertEqual([], users(PLAN, ITEMS, name))

    def test_both_ways(self):
        source = random.Random(122)
        for _ in range(100):
            plan = some_plan(source)
            items = list(ITEMS) + [rule[0] for rule in plan]
            for name in items:
                self.assertEqual(sorted(other for other in items if name in needs(plan, ITEMS, other)),
                                 users(plan, ITEMS, name))

    def test_long_plan(self):
        plan, given = long_plan(2000)
        self.assertEqual(2000, len(needs(plan, given, plan[0][0])))
        self.assertEqual(1999, len(users(plan, given, plan[-1][0])))

    def test_names_that_no_item_has(self):
        for call in (needs, users):
            for name in ("q", "", "xx"):
                with self.assertRaises(BadPlan) as caught:
                    call(PLAN, ITEMS, name)
                self.assertEqual(name, caught.exception.name)


class PartTest(unittest.TestCase):
    def test_parts(self):
        self.assertEqual([], part_of(PLAN, ITEMS, []))
        self.assertEqual([], part_of(PLAN, ITEMS, ["x", "z"]))
        self.assertEqual(PLAN[:5], part_of(PLAN, ITEMS, ["e"]))
        self.assertEqual([PLAN[2], PLAN[4]], part_of(PLAN, ITEMS, ["c"]))
        self.assertEqual([PLAN[3], PLAN[5]], part_of(PLAN, ITEMS, ["f", "b", "b", "x"]))
        self.assertEqual(PLAN, part_of(PLAN, ITEMS, ["g", "e"]))
        self.assertEqual(EXAMPLE, part_of(EXAMPLE, GIVEN, ["b"]))
        self.assertEqual(EXAMPLE[1:], part_of(EXAMPLE, GIVEN, ["a"]))

    def test_names_that_no_item_has(self):
        with self.assertRaises(BadPlan) as caught:
            part_of(PLAN, ITEMS, ["a", "none", "other"])
        self.assertEqual("none", caught.exception.name)

    def test_order_of_a_part(self):
        source = random.Random(126)
        for _ in range(200):
            plan = some_plan(source)
            names = [rule[0] for rule in plan if source.random() < 0.3]
            part = part_of(plan, ITEMS, names)
            kept = [rule[0] for rule in part]
            self.assertEqual([rule for rule in plan if rule[0] in kept], part)
            self.assertEqual([name for name in order_of(plan, ITEMS) if name in kept], order_of(part, ITEMS))


if __name__ == "__main__":
    unittest.main()
