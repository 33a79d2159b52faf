"""Builds: the rules of a plan are carried out, one after the other."""

from plinth.errors import BadPlan
from plinth.machine import check_fuel, run
from plinth.plans import check_plan, order_of


def _run_of_rule(contents, fuel):
    """Runs the first of some contents on the others: ended, the output, the steps."""
    numbers = [number for content in contents[1:] for number in content]
    return run(contents[0], numbers, fuel=fuel)


class Build:
    """A build of a plan, and what it has built so far."""

    def __init__(self, plan, given, *, fuel):
        self._order = order_of(plan, given)
        check_fuel(fuel)
        self._parts = {target: (tool,) + tuple(sources) for target, tool, sources in plan}
        self._given = {name: list(given[name]) for name in given}
        self._fuel = fuel
        # Each target that was carried out has its content, or None if it failed.
        self._done = {}
        self.steps = 0

    def advance(self):
        """Carries out the next rule and returns its target, or None at the end."""
        if len(self._done) == len(self._order):
            return None
        target = self._order[len(self._done)]
        self._done[target] = self._built(target)
        return target

    def finish(self):
        """Carries out all remaining rules and returns how many there were."""
        many = 0
        while self.advance() is not None:
            many += 1
        return many

    def content(self, name):
        """Returns the content of an item, None if it has none or none yet."""
        if name not in self._given and name not in self._parts:
            raise BadPlan(name)
        content = self._held(name)
        return None if content is None else list(content)

    def failed(self):
        """Returns the targets that have failed so far, sorted."""
        return sorted([target for target in self._done if self._done[target] is None])

    def record(self):
        """Returns all that another build needs to go on from here."""
        rules = [(target, parts[0], parts[1:]) for target, parts in self._parts.items()]
        items = [(name, tuple(self._given[name])) for name in sorted(self._given)]
        done = [(target, None if content is None else tuple(content)) for target, content in self._done.items()]
        return (tuple(rules), tuple(items), self._fuel, tuple(done), self.steps)

    def take_over(self, done, steps):
        """Takes what another build of the same plan has done."""
        for at, (target, content) in enumerate(done):
            if at >= len(self._order) or self._order[at] != target:
                raise BadPlan(target)
            self._done[target] = None if content is None else list(content)
        self.steps = steps

    def _held(self, name):
        return self._given[name] if name in self._given else self._done.get(name)

    def _built(self, target):
        """Carries out a rule and returns the content of its target."""
        contents = [self._held(name) for name in self._parts[target]]
        if any([content is None for content in contents]):
            return None
        ended, output, made = _run_of_rule(contents, self._fuel)
        self.steps += made
        return output if ended else None


def go_on(record):
    """Returns a build that goes on from a record."""
    rules, items, fuel, done, steps = record
    build = Build(rules, dict(items), fuel=fuel)
    build.take_over(done, steps)
    return build


def build_all(plan, given, *, fuel):
    """Returns the contents of all targets that were built, and those that failed."""
    build = Build(plan, given, fuel=fuel)
    build.finish()
    failed = build.failed()
    contents = {rule[0]: build.content(rule[0]) for rule in plan if rule[0] not in failed}
    return (contents, failed)


def is_built(plan, given, contents, name, *, fuel):
    """Tells whether a rule makes exactly the content that its target has."""
    check_plan(plan, given)
    rules = [rule for rule in plan if rule[0] == name]
    if not rules:
        raise BadPlan(name)
    check_fuel(fuel)
    _, tool, sources = rules[0]
    parts = [tool] + list(sources)
    held = {**contents, **given}
    if not all([part in held for part in [name] + parts]):
        return False
    ended, output, _ = _run_of_rule([held[part] for part in parts], fuel)
    return ended and output == held[name]
