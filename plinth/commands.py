"""What the commands of a desk do.

Each command is a function of what the desk has and of the values behind the
command. It returns the answer. It may raise an error of this program before it
changes anything."""

from plinth.audit import audit
from plinth.builds import build_all
from plinth.claims import right_claim
from plinth.disputes import dispute
from plinth.errors import OutOfRange
from plinth.holdings import Held
from plinth.kinds import meant
from plinth.machine import run
from plinth.plans import needs
from plinth.signs import codes_of, has_numeral, numeral, text_of
from plinth.trim import trim


def _numbers(holdings, values):
    holdings.contents[values[0]] = values[1:]
    return "ok"


def _text(holdings, values):
    name, text = values
    holdings.contents[name] = codes_of(text)
    return "ok"


def _show(holdings, values):
    content = holdings.contents[values[0]]
    if not content:
        return "empty"
    if not all([has_numeral(number) for number in content]):
        return "large"
    return " ".join([numeral(number) for number in content])


def _with_content(holdings, name, content):
    """Gives an item a content and returns its length as the answer."""
    holdings.contents[name] = content
    return str(len(content))


def _with_meaning(holdings, kind, values):
    name, source = values
    return _with_content(holdings, name, meant(kind, holdings.contents[source]))


def _digits(holdings, values):
    return _with_meaning(holdings, "digits", values)


def _short(holdings, values):
    return _with_meaning(holdings, "short", values)


def _plain(holdings, values):
    return _with_meaning(holdings, "plain", values)


def _turned(holdings, values):
    return _with_meaning(holdings, "turned", values)


def _trim(holdings, values):
    name, source = values
    return _with_content(holdings, name, trim(holdings.contents[source]))


def _run(holdings, values):
    name, image, numbers, fuel = values
    ended, output, steps = run(holdings.contents[image], holdings.contents[numbers], fuel=fuel)
    if not ended:
        return "not ended"
    holdings.contents[name] = output
    return f"ended {steps}"


def _rule(holdings, values):
    holdings.rules.append((values[0], values[1], tuple(values[2:])))
    return "ok"


def _build(holdings, values):
    built, failed = build_all(holdings.rules, holdings.contents, fuel=values[0])
    holdings.contents.update(built)
    holdings.rules.clear()
    return f"built {len(built)} failed {len(failed)}"


def _needs(holdings, values):
    names = needs(holdings.rules, holdings.contents, values[0])
    return " ".join(names) if names else "none"


def _put(holdings, values):
    name, kind, text, binary = values
    holdings.shelf.put(name, kind, text_of(holdings.contents[text]), holdings.contents[binary])
    return "ok"


def _make(holdings, values):
    name, kind, text, maker, fuel = values
    is_built = holdings.shelf.build(name, kind, text_of(holdings.contents[text]), by=maker, fuel=fuel)
    return "built" if is_built else "not ended"


def _swap(holdings, values):
    one, other = values
    holdings.shelf.swap(one, other)
    return "ok"


def _copy(holdings, values):
    source, name = values
    holdings.shelf.clone(source, name)
    return "ok"


def _damage(holdings, values):
    name, at, number = values
    holdings.shelf.damage(name, at, number)
    return "ok"


def _trap(holdings, values):
    name, lure, extra = values
    holdings.shelf.trap(name, holdings.contents[lure], holdings.contents[extra])
    return "ok"


def _take(holdings, values):
    name, source = values
    return _with_content(holdings, name, holdings.shelf.binary(source))


def _audit(holdings, _):
    found = audit(holdings.shelf)
    return " ".join([f"{name}:{place}" for name, place in found]) if found else "clean"


def _claim(holdings, values):
    name, image, numbers, fuel = values
    states = right_claim(holdings.contents[image], holdings.contents[numbers], fuel=fuel)
    if states is None:
        return "not ended"
    holdings.claims[name] = Held(holdings.contents[image], holdings.contents[numbers], states)
    return str(len(states))


def _spoil(holdings, values):
    name, index, at = values
    held = holdings.claims[name]
    if not 0 <= index < len(held.states):
        raise OutOfRange("the claim has no such state")
    states = list(held.states)
    states[index] = (at,) + states[index][1:]
    holdings.claims[name] = Held(held.image, held.numbers, states)
    return "ok"


def _dispute(holdings, values):
    one, other = values
    held = holdings.claims[one]
    verdict = dispute(held.image, held.numbers, held.states, holdings.claims[other].states)
    if verdict is None:
        return "agree"
    high, _, blames_first, blames_second = verdict
    if blames_first and blames_second:
        return f"part {high} both"
    return f"part {high} first" if blames_first else f"part {high} second"


_COMMANDS = {
    "numbers": _numbers,
    "text": _text,
    "show": _show,
    "digits": _digits,
    "short": _short,
    "plain": _plain,
    "turned": _turned,
    "trim": _trim,
    "run": _run,
    "rule": _rule,
    "build": _build,
    "needs": _needs,
    "put": _put,
    "make": _make,
    "swap": _swap,
    "copy": _copy,
    "damage": _damage,
    "trap": _trap,
    "take": _take,
    "audit": _audit,
    "claim": _claim,
    "spoil": _spoil,
    "dispute": _dispute,
}


def perform(command, holdings, values):
    """Does what a command does and returns the answer."""
    action = _COMMANDS[command]
    return action(holdings, values)
