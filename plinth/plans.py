"""Plans: rules that tell which item is built by which tool from which sources."""

from heapq import heappop, heappush

from plinth.errors import BadPlan


def _parts(rule):
    """Returns the names on which the target of a rule depends directly."""
    _, tool, sources = rule
    return [tool] + list(sources)


def _needed_by_targets(plan):
    """Returns a dict from each target to the items on which it depends directly."""
    return {rule[0]: _parts(rule) for rule in plan}


def _rules_that_use(plan):
    """Returns a dict from items to the indexes of the rules that have them as
    a part, repeated as the parts are."""
    found = {}
    for at, rule in enumerate(plan):
        for name in _parts(rule):
            found.setdefault(name, []).append(at)
    return found


def _users_of_items(plan):
    """Returns a dict from items to the targets that depend on them directly."""
    using = _rules_that_use(plan)
    return {name: [plan[at][0] for at in using[name]] for name in using}


def _reached(ways, starts):
    """Returns a dict of the names to which ways lead from some names."""
    found = {}
    waiting = list(starts)
    while waiting:
        name = waiting.pop()
        for following in ways.get(name, []):
            if following not in found:
                found[following] = True
                waiting.append(following)
    return found


def _check_targets(plan, given):
    known = {name: True for name in given}
    for rule in plan:
        if rule[0] in known:
            raise BadPlan(rule[0])
        known[rule[0]] = True


def _check_parts(plan, given):
    needed = _needed_by_targets(plan)
    for rule in plan:
        for name in _parts(rule):
            if name not in given and name not in needed:
                raise BadPlan(name)


def _missing_parts(plan, given):
    """Returns how many parts of each rule are not given, a list."""
    return [len([name for name in _parts(rule) if name not in given]) for rule in plan]


def _ordered(plan, given):
    """Returns the targets in order, without those that can never be built."""
    missing = _missing_parts(plan, given)
    using = _rules_that_use(plan)
    # The indexes in ascending order are a heap already.
    ready = [at for at, many in enumerate(missing) if many == 0]
    order = []
    while ready:
        target = plan[heappop(ready)][0]
        order.append(target)
        for at in using.get(target, []):
            missing[at] -= 1
            if missing[at] == 0:
                heappush(ready, at)
    return order


def _checked_order(plan, given):
    _check_targets(plan, given)
    _check_parts(plan, given)
    order = _ordered(plan, given)
    if len(order) < len(plan):
        needed = _needed_by_targets(plan)
        for rule in plan:
            if rule[0] in _reached(needed, [rule[0]]):
                raise BadPlan(rule[0])
    return order


def check_plan(plan, given):
    """Raises BadPlan if a plan is invalid for the given items."""
    _checked_order(plan, given)


def order_of(plan, given):
    """Returns the targets of a plan in the order in which they are built."""
    return _checked_order(plan, given)


def _check_name(plan, given, name):
    if name not in given and name not in _needed_by_targets(plan):
        raise BadPlan(name)


def needs(plan, given, name):
    """Returns all items on which an item depends, sorted."""
    check_plan(plan, given)
    _check_name(plan, given, name)
    return sorted(_reached(_needed_by_targets(plan), [name]))


def users(plan, given, name):
    """Returns all targets that depend on an item, sorted."""
    check_plan(plan, given)
    _check_name(plan, given, name)
    return sorted(_reached(_users_of_items(plan), [name]))


def part_of(plan, given, names):
    """Returns the rules of a plan that some items need."""
    check_plan(plan, given)
    for name in names:
        _check_name(plan, given, name)
    wanted = _reached(_needed_by_targets(plan), names)
    wanted.update({name: True for name in names})
    return [rule for rule in plan if rule[0] in wanted]
