"""Builds: points [120] and [124] to [126]."""

import random
import unittest

from plinth.builds import Build, build_all, go_on, is_built
from plinth.errors import BadFuel, BadPlan
from plinth.machine import run
from plinth.plans import order_of, part_of
from plinth.short import translate_short
from plinth.translate import translate
from tests.helpers import codes

# Copies its input up to the first negative integer.
COPY = [0, 44, 0, 1, 1, 34, 0, 2, 2, 35, 0, 3, 3, 60, 0, 4, 4, 63, 5, 9, 5, 46, 0, 0]
EXAMPLE = [("b", "copy", ("a", "text")), ("a", "copy", ("text",))]
GIVEN = {"copy": COPY, "text": [5, 6]}
# `loop` never ends, `first` writes the first integer of its input, and `make`
# writes an image.
ITEMS = {"copy": COPY, "loop": [0, 32, 0, 0], "first": translate_short(codes(",.")), "none": [], "text": [5, 6],
         "make": translate(codes("0.'#.7.1. 1.'..0.9."))}
PLAN = [("g", "f", ("a",)), ("e", "copy", ("d", "a")), ("d", "loop", ()), ("c", "copy", ("b", "b")),
        ("b", "first", ("text",)), ("a", "copy", ("text", "text")), ("f", "copy", ("made",)), ("made", "make", ()),
        ("h", "e", ()), ("i", "first", ("none", "c"))]
ORDER = ["d", "b", "c", "a", "e", "made", "f", "g", "h", "i"]
CONTENTS = {"a": [5, 6, 5, 6], "b": [5], "c": [5, 5], "made": [0, 35, 7, 1, 1, 46, 0, 9], "i": [5], "g": [7],
            "f": [0, 35, 7, 1, 1, 46, 0, 9]}
FAILED = ["d", "e", "h"]


def some_plan(source):
    """A valid plan for ITEMS with tools of all kinds."""
    names = list("abcdefgh")
    source.shuffle(names)
    plan = []
    for at, name in enumerate(names):
        pool = names[:at] + ["text", "none"]
        tool = source.choice(["copy", "copy", "first", "loop", "none"] + names[:at])
        plan.append((name, tool, tuple(source.choice(pool) for _ in range(source.randrange(3)))))
    source.shuffle(plan)
    return plan


class BuildTest(unittest.TestCase):
    def test_example(self):
        self.assertEqual(({"a": [5, 6], "b": [5, 6, 5, 6]}, []), build_all(EXAMPLE, GIVEN, fuel=1000))

    def test_rules_one_by_one(self):
        build = Build(EXAMPLE, GIVEN, fuel=1000)
        self.assertEqual([None, None, [5, 6], COPY, 0],
                         [build.content(name) for name in ("a", "b", "text", "copy")] + [build.steps])
        self.assertEqual("a", build.advance())
        steps = run(COPY, [5, 6], fuel=1000)[2]
        self.assertEqual([[5, 6], None, steps], [build.content("a"), build.content("b"), build.steps])
        self.assertEqual("b", build.advance())
        steps += run(COPY, [5, 6, 5, 6], fuel=1000)[2]
        self.assertEqual([[5, 6, 5, 6], [], steps], [build.content("b"), build.failed(), build.steps])
        self.assertIsNone(build.advance())
        self.assertEqual(0, build.finish())
        self.assertEqual(steps, build.steps)

    def test_order_of_the_rules(self):
        build = Build(PLAN, ITEMS, fuel=100)
        self.assertEqual(ORDER, [build.advance() for _ in PLAN])
        self.assertEqual(ORDER, order_of(PLAN, ITEMS))
        self.assertIsNone(build.advance())

    def test_contents_and_failures(self):
        self.assertEqual((CONTENTS, FAILED), build_all(PLAN, ITEMS, fuel=100))
        build = Build(PLAN, ITEMS, fuel=100)
        self.assertEqual(10, build.finish())
        for target in ORDER:
            self.assertEqual(CONTENTS.get(target), build.content(target))
        self.assertEqual(FAILED, build.failed())

    def test_fuel(self):
        needed = run(COPY, [5, 6, 5, 6], fuel=1000)[2]
        self.assertEqual(({"a": [5, 6], "b": [5, 6, 5, 6]}, []), build_all(EXAMPLE, GIVEN, fuel=needed))
        self.assertEqual(({"a": [5, 6]}, ["b"]), build_all(EXAMPLE, GIVEN, fuel=needed - 1))
        self.assertEqual(({}, ["a", "b"]), build_all(EXAMPLE, GIVEN, fuel=0))
        build = Build(EXAMPLE, GIVEN, fuel=3)
        self.assertEqual(("a", ["a"], 3), (build.advance(), build.failed(), build.steps))
        # A rule whose source has failed is not run.
        self.assertEqual(("b", ["a", "b"], 3), (build.advance(), build.failed(), build.steps))

    def test_empty_images_and_plans(self):
        self.assertEqual(({"a": []}, []), build_all([("a", "none", ("text",))], ITEMS, fuel=0))
        self.assertEqual(({}, []), build_all([], {}, fuel=0))
        build = Build([], ITEMS, fuel=5)
        self.assertEqual((None, 0, [], 0), (build.advance(), build.finish(), build.failed(), build.steps))

    def test_order_has_no_influence(self):
        source = random.Random(124)
        for _ in range(60):
            plan = some_plan(source)
            expected = build_all(plan, ITEMS, fuel=60)
            source.shuffle(plan)
            self.assertEqual(expected, build_all(plan, ITEMS, fuel=60))

    def test_parts(self):
        """Point [126]."""
        source = random.Random(126)
        for _ in range(60):
            plan = some_plan(source)
            contents, failed = build_all(plan, ITEMS, fuel=60)
            names = source.sample("abcdefgh", 2)
            part = part_of(plan, ITEMS, names)
            kept = [rule[0] for rule in part]
            expected = ({name: contents[name] for name in contents if name in kept},
                        [name for name in failed if name in kept])
            self.assertEqual(expected, build_all(part, ITEMS, fuel=60))

    def test_copies(self):
        plan, given = list(EXAMPLE), {name: list(GIVEN[name]) for name in GIVEN}
        build = Build(plan, given, fuel=1000)
        plan.clear()
        given["text"].append(7)
        del given["copy"]
        build.content("text").append(8)
        build.finish()
        build.content("a").append(9)
        self.assertEqual([[5, 6], [5, 6], [5, 6, 5, 6]], [build.content(name) for name in ("text", "a", "b")])

    def test_errors(self):
        for plan, name in (([("a", "more", ())], "more"), ([("copy", "copy", ())], "copy"), ([("a", "a", ())], "a")):
            for call in (Build, build_all):
                with self.assertRaises(BadPlan) as caught:
                    call(plan, ITEMS, fuel=-1)
                self.assertEqual(name, caught.exception.name)
        for call in (Build, build_all):
            with self.assertRaises(BadFuel):
                call(EXAMPLE, GIVEN, fuel=-1)
        build = Build(EXAMPLE, GIVEN, fuel=9)
        for name in ("c", "", "copyy"):
            with self.assertRaises(BadPlan) as caught:
                build.content(name)
            self.assertEqual(name, caught.exception.name)


class RecordTest(unittest.TestCase):
    def test_start(self):
        items = (("copy", tuple(COPY)), ("text", (5, 6)))
        self.assertEqual((tuple(EXAMPLE), items, 7, (), 0), Build(EXAMPLE, GIVEN, fuel=7).record())

    def test_end(self):
        build = Build(PLAN, ITEMS, fuel=100)
        build.finish()
        rules, items, fuel, done, steps = build.record()
        self.assertEqual((tuple(PLAN), 100, build.steps), (rules, fuel, steps))
        self.assertEqual(tuple((name, tuple(ITEMS[name])) for name in sorted(ITEMS)), items)
        self.assertEqual(tuple((name, tuple(CONTENTS[name]) if name in CONTENTS else None) for name in ORDER), done)

    def test_cut_off_behind_each_rule(self):
        whole = Build(PLAN, ITEMS, fuel=100)
        whole.finish()
        for many in range(len(PLAN) + 1):
            build = Build(PLAN, ITEMS, fuel=100)
            for _ in range(many):
                build.advance()
            record = build.record()
            resumed = go_on(record)
            self.assertEqual(record, resumed.record())
            self.assertEqual(build.steps, resumed.steps)
            self.assertEqual(build.failed(), resumed.failed())
            self.assertEqual(len(PLAN) - many, resumed.finish())
            self.assertEqual(whole.record(), resumed.record())
            # The build that was cut off is another object.
            self.assertEqual(record, build.record())

    def test_rule_by_rule(self):
        record = Build(PLAN, ITEMS, fuel=100).record()
        for target in ORDER:
            build = go_on(record)
            self.assertEqual(target, build.advance())
            record = build.record()
        self.assertIsNone(go_on(record).advance())
        self.assertEqual(FAILED, go_on(record).failed())

    def test_what_the_record_says(self):
        rules, items, fuel, done, steps = Build(EXAMPLE, GIVEN, fuel=1000).record()
        build = go_on((rules, items, fuel, (("a", (9, 8, 7)),), 50))
        self.assertEqual(([9, 8, 7], 50), (build.content("a"), build.steps))
        build.finish()
        self.assertEqual([9, 8, 7, 5, 6], build.content("b"))
        build = go_on((rules, items, fuel, (("a", None),), 50))
        self.assertEqual((None, ["a"]), (build.content("a"), build.failed()))
        self.assertEqual(1, build.finish())
        self.assertEqual((["a", "b"], 50), (build.failed(), build.steps))

    def test_records_that_are_not_allowed(self):
        rules, items, fuel, done, steps = Build(EXAMPLE, GIVEN, fuel=1000).record()
        cases = [
            ((rules, items, fuel, (("b", ()),), 0), "b"),
            ((rules, items, fuel, (("a", ()), ("a", ())), 0), "a"),
            ((rules, items, fuel, (("a", ()), ("text", ())), 0), "text"),
            ((rules, items, fuel, (("a", ()), ("b", ()), ("c", ())), 0), "c"),
            ((rules, items, fuel, (("b", ()), ("a", ())), 0), "b"),
            ((rules, items, fuel, (("none", None),), 0), "none"),
            ((rules, items[1:], fuel, done, 0), "copy"),
            ((rules + (("a", "copy", ()),), items, fuel, done, 0), "a"),
            ((rules + (("d", "d", ()),), items, fuel, (("b", ()),), 0), "d"),
        ]
        for record, name in cases:
            with self.assertRaises(BadPlan) as caught:
                go_on(record)
            self.assertEqual(name, caught.exception.name)


class IsBuiltTest(unittest.TestCase):
    def test_what_was_built(self):
        contents, failed = build_all(PLAN, ITEMS, fuel=100)
        for rule in PLAN:
            self.assertIs(rule[0] not in failed, is_built(PLAN, ITEMS, contents, rule[0], fuel=100))

    def test_other_contents(self):
        right = {"a": [5, 6], "b": [5, 6, 5, 6]}
        self.assertIs(True, is_built(EXAMPLE, GIVEN, right, "a", fuel=1000))
        self.assertIs(True, is_built(EXAMPLE, GIVEN, right, "b", fuel=1000))
        for content in ([], [5], [5, 7], [5, 6, 7]):
            changed = {"a": content, "b": content + [5, 6]}
            self.assertIs(False, is_built(EXAMPLE, GIVEN, changed, "a", fuel=1000))
            # Only the one rule counts.
            self.assertIs(True, is_built(EXAMPLE, GIVEN, changed, "b", fuel=1000))

    def test_what_is_missing(self):
        self.assertIs(False, is_built(EXAMPLE, GIVEN, {}, "a", fuel=1000))
        self.assertIs(False, is_built(EXAMPLE, GIVEN, {"a": [5, 6]}, "b", fuel=1000))
        self.assertIs(False, is_built(EXAMPLE, GIVEN, {"b": [5, 6, 5, 6]}, "b", fuel=1000))
        plan = [("tool", "copy", ()), ("a", "tool", ())]
        self.assertIs(False, is_built(plan, GIVEN, {"a": []}, "a", fuel=1000))
        self.assertIs(True, is_built(plan, GIVEN, {"a": [], "tool": []}, "a", fuel=1000))

    def test_fuel(self):
        needed = run(COPY, [5, 6], fuel=1000)[2]
        self.assertIs(True, is_built(EXAMPLE, GIVEN, {"a": [5, 6]}, "a", fuel=needed))
        self.assertIs(False, is_built(EXAMPLE, GIVEN, {"a": [5, 6]}, "a", fuel=needed - 1))
        self.assertIs(False, is_built([("a", "loop", ())], ITEMS, {"a": []}, "a", fuel=100))

    def test_errors(self):
        for name in ("text", "copy", "c", ""):
            with self.assertRaises(BadPlan) as caught:
                is_built(EXAMPLE, GIVEN, {}, name, fuel=-1)
            self.assertEqual(name, caught.exception.name)
        with self.assertRaises(BadPlan) as caught:
            is_built([("a", "a", ())], GIVEN, {}, "c", fuel=-1)
        self.assertEqual("a", caught.exception.name)
        for contents in ({}, {"a": [5, 6]}):
            with self.assertRaises(BadFuel):
                is_built(EXAMPLE, GIVEN, contents, "a", fuel=-1)


if __name__ == "__main__":
    unittest.main()
