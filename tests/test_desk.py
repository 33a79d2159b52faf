"""The desk: points [261] to [263]."""

import random
import unittest

from plinth.audit import due
from plinth.desk import Desk
from plinth.digits import read_digits
from plinth.machine import run
from plinth.rungs import rung_text
from plinth.seed import seed_image
from plinth.short import translate_short
from plinth.traps import plant
from plinth.translate import translate
from plinth.trim import trim
from tests.helpers import codes, counter
from tests.test_words import NO_CHARACTERS

# Copies its input up to the first negative integer.
COPY = [0, 44, 0, 1, 1, 34, 0, 2, 2, 35, 0, 3, 3, 60, 0, 4, 4, 63, 5, 9, 5, 46, 0, 0]
ECHO = [0, 44, 0, 1, 1, 46, 0, 2]
LOOP = [0, 32, 0, 0]
LINES = [
    "numbers copy " + " ".join(str(cell) for cell in COPY), "numbers echo 0 44 0 1 1 46 0 2", "numbers loop 0 32 0 0",
    "numbers none", "numbers five 5", "text program 2 3+.", "put entry plain program echo", "put other short none copy",
    "claim right echo five 9", "claim wrong echo five 9", "rule made copy five five",
]
# For each command a line that is right, and which of its words are names (N), names of items (I), entries (E)
# and claims (C), numerals (X), fuel (F), and words that may be anything (W).
SHAPES = {
    "show echo": "I", "digits new program": "NI", "short new program": "NI", "plain new program": "NI",
    "turned new program": "NI", "trim new echo": "NI", "run new echo five 9": "NIIF", "build 9": "F", "needs made": "N",
    "put new plain program echo": "NWII", "make new plain program other 99": "NWIEF", "swap entry other": "EE",
    "copy entry other": "EE", "damage entry 0 5": "EXX", "trap entry five none": "EII", "take new entry": "NE",
    "audit": "",
    "claim new echo five 9": "NIIF", "spoil wrong 1 9": "CXX", "dispute right wrong": "CC", "numbers new 1 2": "NXX",
    "rule new tool source": "NNN",
}
BAD_NAMES = ["A", "a1", "abcdefghijklm", "9", "-", "\u007e", "a_b"]
BAD_NUMERALS = ["x", "", "01", "-0", "+1", "1.5", "9" * 61, "1e3", "0x1"]


def filled():
    desk = Desk()
    assert desk.answers(LINES) == ["ok"] * 8 + ["3", "3", "ok"]
    return desk


def contents(desk):
    return [(name, desk.content(name)) for name in desk.names()]


def seen(desk):
    """All that can be seen of a desk by asking it."""
    names = ["entry", "other", "new", "third"]
    asked = [desk.answer(line) for line in ("audit", "needs made", "needs new", "dispute right wrong",
                                            "dispute wrong right", "dispute new new")]
    asked += [desk.answer(f"take seen {name}") + str(desk.content("seen")) for name in names]
    return asked + contents(desk)


class ItemsTest(unittest.TestCase):
    def test_new(self):
        self.assertEqual([], Desk().names())
        self.assertIsNone(Desk().content("a"))
        self.assertEqual("clean", Desk().answer("audit"))
        self.assertEqual("built 0 failed 0", Desk().answer("build 0"))

    def test_numbers(self):
        desk = Desk()
        for line, content in (("numbers a", []), ("numbers a 1", [1]),
                              ("numbers b 0 -5 " + "9" * 60, [0, -5, 10 ** 60 - 1]),
                              ("numbers abcdefghijkl 7 7", [7, 7]), ("numbers a 2", [2])):
            self.assertEqual("ok", desk.answer(line))
            self.assertEqual(content, desk.content(line.split(" ")[1]))
        self.assertEqual(["a", "abcdefghijkl", "b"], desk.names())

    def test_text(self):
        desk = Desk()
        for text in ("", "a", " a  b ", "   ", "'~ &", "text a"):
            self.assertEqual("ok", desk.answer("text a " + text))
            self.assertEqual(codes(text), desk.content("a"))
        self.assertEqual("ok", desk.answer("text a"))
        self.assertEqual([], desk.content("a"))

    def test_show(self):
        desk = filled()
        for name, answer in (("five", "5"), ("echo", "0 44 0 1 1 46 0 2"), ("none", "empty"),
                             ("program", "50 32 51 43 46")):
            self.assertEqual(answer, desk.answer(f"show {name}"))
        desk.answer("numbers a -5 0 " + "9" * 60)
        self.assertEqual("-5 0 " + "9" * 60, desk.answer("show a"))
        desk.answer("numbers a -" + "9" * 60)
        self.assertEqual("-" + "9" * 60, desk.answer("show a"))

    def test_large(self):
        desk = Desk()
        desk.answer("text program " + "9" * 60 + " 1+.")
        desk.answer("plain image program")
        desk.answer("numbers none")
        self.assertEqual("ended 6", desk.answer("run result image none 100"))
        self.assertEqual([10 ** 60], desk.content("result"))
        self.assertEqual("large", desk.answer("show result"))
        desk.answer("text program " + "9" * 60 + ".7.0 " + "9" * 60 + "-1-.")
        desk.answer("plain image program")
        desk.answer("run result image none 100")
        self.assertEqual([10 ** 60 - 1, 7, -10 ** 60], desk.content("result"))
        self.assertEqual("large", desk.answer("show result"))

    def test_definitions(self):
        desk = Desk()
        text = "12 'a:F5>+."
        desk.answer("text a " + text)
        for kind in ("digits", "short", "plain", "turned"):
            right = due(kind, text)
            self.assertEqual(str(len(right)), desk.answer(f"{kind} b a"))
            self.assertEqual(right, desk.content("b"))
        # The content may have any integers.
        numbers = [49, 300, 50, 39, -1, 51]
        desk.answer("numbers a " + " ".join(str(number) for number in numbers))
        for kind, right in (("digits", read_digits(numbers)), ("short", translate_short(numbers)),
                            ("plain", translate(numbers)), ("turned", translate(numbers, first=-1, by=-1))):
            self.assertEqual(str(len(right)), desk.answer(f"{kind} b a"))
            self.assertEqual(right, desk.content("b"))
        self.assertEqual("2", desk.answer("digits a a"))
        self.assertEqual([1, 2], desk.content("a"))
        self.assertEqual("0", desk.answer("digits a a"))

    def test_trim(self):
        desk = filled()
        image = translate(codes("2 3+."))
        desk.answer("plain a program")
        self.assertEqual("12", desk.answer("trim b a"))
        self.assertEqual(trim(image), desk.content("b"))
        self.assertEqual(image, desk.content("a"))
        self.assertEqual("0", desk.answer("trim a none"))

    def test_run(self):
        desk = filled()
        self.assertEqual("ended 2", desk.answer("run a echo five 2"))
        self.assertEqual([5], desk.content("a"))
        self.assertEqual("not ended", desk.answer("run b echo five 1"))
        self.assertIsNone(desk.content("b"))
        self.assertEqual("not ended", desk.answer("run a loop five 100000"))
        self.assertEqual([5], desk.content("a"))
        self.assertEqual("ended 0", desk.answer("run five none echo 0"))
        self.assertEqual([], desk.content("five"))
        self.assertEqual("ended 2", desk.answer("run echo echo loop 9"))
        self.assertEqual([0], desk.content("echo"))

    def test_copies(self):
        desk = filled()
        desk.content("echo").append(5)
        desk.names().clear()
        self.assertEqual(ECHO, desk.content("echo"))
        desk.answer("run a copy five 99")
        desk.content("a").append(5)
        self.assertEqual([5], desk.content("a"))


class RulesTest(unittest.TestCase):
    def test_build(self):
        desk = filled()
        self.assertEqual("ok", desk.answer("rule twice copy made made"))
        self.assertEqual("ok", desk.answer("rule nothing none"))
        self.assertEqual("built 3 failed 0", desk.answer("build 100"))
        self.assertEqual(([5, 5], [5, 5, 5, 5], []), tuple(desk.content(name) for name in ("made", "twice", "nothing")))
        # All rules are removed.
        self.assertEqual("built 0 failed 0", desk.answer("build 100"))
        self.assertEqual("none", desk.answer("needs made"))

    def test_failures(self):
        desk = filled()
        desk.answers(["rule ends none", "rule never loop", "rule behind copy never"])
        self.assertEqual("built 2 failed 2", desk.answer("build 100"))
        self.assertEqual(([5, 5], []), (desk.content("made"), desk.content("ends")))
        self.assertEqual((None, None), (desk.content("never"), desk.content("behind")))
        self.assertEqual("built 0 failed 0", desk.answer("build 100"))
        desk.answer("rule again copy five")
        steps = run(COPY, [5], fuel=99)[2]
        self.assertEqual("built 0 failed 1", desk.answer(f"build {steps - 1}"))
        desk.answer("rule again copy five")
        self.assertEqual("built 1 failed 0", desk.answer(f"build {steps}"))

    def test_invalid_plans(self):
        for line in ("rule five copy", "rule made copy", "rule new unknown", "rule new copy unknown", "rule new new",
                     "rule new copy new"):
            desk = filled()
            self.assertEqual("ok", desk.answer(line))
            before = contents(desk)
            for other in ("build 100", "needs made", "needs five"):
                self.assertEqual("refused", desk.answer(other))
            self.assertEqual(before, contents(desk))
        desk = filled()
        # The rules are still there, and become a plan with one item more.
        desk.answer("rule new unknown")
        self.assertEqual("refused", desk.answer("build 100"))
        desk.answer("numbers unknown")
        self.assertEqual("built 2 failed 0", desk.answer("build 100"))

    def test_needs(self):
        desk = filled()
        desk.answers(["rule a copy b", "rule b copy program"])
        for name, answer in (("a", "b copy program"), ("b", "copy program"), ("five", "none"), ("made", "copy five")):
            self.assertEqual(answer, desk.answer(f"needs {name}"))
        self.assertEqual("refused", desk.answer("needs unknown"))
        desk = Desk()
        desk.answers(["numbers copy", "text text abc", "rule b copy text"])
        self.assertEqual("copy text", desk.answer("needs b"))


class ShelfTest(unittest.TestCase):
    def binary(self, desk, name):
        length = desk.answer(f"take binary {name}")
        self.assertEqual(str(len(desk.content("binary"))), length)
        return desk.content("binary")

    def test_put_and_take(self):
        desk = filled()
        self.assertEqual("8", desk.answer("take a entry"))
        self.assertEqual(ECHO, desk.content("a"))
        self.assertEqual("24", desk.answer("take a other"))
        self.assertEqual("ok", desk.answer("put entry turned none loop"))
        self.assertEqual(LOOP, self.binary(desk, "entry"))
        desk.answer("numbers loop 5")
        self.assertEqual(LOOP, self.binary(desk, "entry"))

    def test_make(self):
        desk = filled()
        steps = run(COPY, codes("2 3+."), fuel=999)[2]
        self.assertEqual("not ended", desk.answer(f"make new plain program other {steps - 1}"))
        self.assertEqual("unknown new", desk.answer("take a new"))
        self.assertEqual("built", desk.answer(f"make new plain program other {steps}"))
        self.assertEqual(codes("2 3+."), self.binary(desk, "new"))
        self.assertEqual("built", desk.answer("make other plain none other 100000"))
        self.assertEqual([], self.binary(desk, "other"))

    def test_swap_and_copy(self):
        desk = filled()
        self.assertEqual("ok", desk.answer("swap entry other"))
        self.assertEqual((COPY, ECHO), (self.binary(desk, "entry"), self.binary(desk, "other")))
        self.assertEqual("ok", desk.answer("copy other entry"))
        self.assertEqual((ECHO, ECHO), (self.binary(desk, "entry"), self.binary(desk, "other")))

    def test_damage(self):
        desk = filled()
        for line, binary in (("damage entry 0 -7", [-7] + ECHO[1:]), ("damage entry 8 5", [-7] + ECHO[1:] + [5]),
                             ("damage entry 8 6", [-7] + ECHO[1:] + [6])):
            self.assertEqual("ok", desk.answer(line))
            self.assertEqual(binary, self.binary(desk, "entry"))
        for line in ("damage entry 10 5", "damage entry -1 5", "damage entry " + "9" * 60 + " 5"):
            self.assertEqual("refused", desk.answer(line))
        self.assertEqual([-7] + ECHO[1:] + [6], self.binary(desk, "entry"))

    def test_trap(self):
        desk = filled()
        desk.answers(["plain image program", "numbers lure 1 2", "numbers extra 5 6 7 8", "numbers bad 127",
                      "put third plain program image"])
        image = translate(codes("2 3+."))
        for line in ("trap third bad none", "trap third none none", "trap third lure five", "trap entry lure none"):
            self.assertEqual("refused", desk.answer(line))
        self.assertEqual(image, self.binary(desk, "third"))
        self.assertEqual("ok", desk.answer("trap third lure extra"))
        self.assertEqual(plant(image, [1, 2], [5, 6, 7, 8]), self.binary(desk, "third"))

    def test_audit(self):
        desk = Desk()
        desk.answers(["text p 12 3", "digits q p", "put z digits p q"])
        self.assertEqual("clean", desk.answer("audit"))
        desk.answers(["put b digits p q", "damage b 1 4"])
        self.assertEqual("b:1", desk.answer("audit"))
        desk.answers(["damage z 2 4", "put a digits p q", "put y digits p p"])
        self.assertEqual("z:2 b:1 y:0", desk.answer("audit"))

    def test_kinds_and_texts_that_are_refused(self):
        desk = filled()
        before = seen(filled())
        for kind in ("twig", "Plain", "first", "9", "~"):
            self.assertEqual("refused", desk.answer(f"put new {kind} program echo"))
            self.assertEqual("refused", desk.answer(f"make new {kind} program other 99"))
            self.assertEqual("unknown x", desk.answer(f"put new {kind} x echo"))
            self.assertEqual("bad", desk.answer(f"put NEW {kind} program echo"))
        for kind in ("plain", "short"):
            # The item has codes that are not those of characters.
            self.assertEqual("refused", desk.answer(f"put new {kind} five echo"))
            self.assertEqual("refused", desk.answer(f"make new {kind} five other 99"))
        self.assertEqual(before, seen(desk))

    def test_the_tower(self):
        desk = Desk()
        desk.answers(["numbers seed " + " ".join(str(cell) for cell in seed_image()), "text none",
                      "put seed digits none seed"])
        # A text on one line: a blank is as good as a newline, except behind a quote.
        first = rung_text("first").replace("\n", " ")
        desk.answer("text first " + first)
        self.assertEqual("built", desk.answer("make first digits first seed 100000"))
        self.assertEqual("seed:0", desk.answer("audit"))
        desk.answer("text program 5#.")
        self.assertEqual("built", desk.answer("make child short program first 100000"))
        self.assertEqual("8", desk.answer("take child child"))
        self.assertEqual([0, 35, 5, 1, 1, 46, 0, 2], desk.content("child"))


class ClaimsTest(unittest.TestCase):
    def test_claims(self):
        desk = filled()
        self.assertEqual("3", desk.answer("claim c echo five 2"))
        self.assertEqual("not ended", desk.answer("claim d echo five 1"))
        self.assertEqual("unknown d", desk.answer("dispute c d"))
        self.assertEqual("1", desk.answer("claim d none five 0"))
        self.assertEqual("not ended", desk.answer("claim d loop five 100000"))
        self.assertEqual("part 1 second", desk.answer("dispute c d"))
        self.assertEqual("agree", desk.answer("dispute c right"))
        self.assertEqual("agree", desk.answer("dispute c c"))

    def test_disputes(self):
        desk = filled()
        self.assertEqual("agree", desk.answer("dispute right wrong"))
        self.assertEqual("ok", desk.answer("spoil wrong 1 9"))
        self.assertEqual("agree", desk.answer("dispute right wrong"))
        self.assertEqual("ok", desk.answer("spoil wrong 2 9"))
        self.assertEqual("part 1 second", desk.answer("dispute right wrong"))
        self.assertEqual("part 1 first", desk.answer("dispute wrong right"))
        self.assertEqual("ok", desk.answer("spoil wrong 1 1"))
        self.assertEqual("part 2 second", desk.answer("dispute right wrong"))
        self.assertEqual("ok", desk.answer("spoil right 2 -" + "9" * 60))
        self.assertEqual("part 2 both", desk.answer("dispute right wrong"))
        self.assertEqual("ok", desk.answer("spoil right 2 9"))
        self.assertEqual("agree", desk.answer("dispute right wrong"))
        desk.answer("numbers counter " + " ".join(str(cell) for cell in counter(9)))
        self.assertEqual("10", desk.answer("claim one counter none 9"))
        desk.answers(["claim other counter none 9", "spoil other 3 77", "spoil other 4 77", "spoil other 9 77"])
        self.assertEqual("part 3 first", desk.answer("dispute other one"))

    def test_indexes_that_are_refused(self):
        desk = filled()
        for index in ("3", "-1", "9" * 60):
            self.assertEqual("refused", desk.answer(f"spoil right {index} 9"))
        self.assertEqual("agree", desk.answer("dispute right wrong"))

    def test_a_dispute_uses_the_run_of_its_first_claim(self):
        desk = filled()
        desk.answers(["numbers six 6", "claim six echo six 9"])
        self.assertEqual("part 1 second", desk.answer("dispute right six"))
        self.assertEqual("part 1 second", desk.answer("dispute six right"))

    def test_later_changes(self):
        desk = filled()
        desk.answers(["spoil wrong 2 9", "numbers five 6", "numbers echo"])
        self.assertEqual("part 2 second", desk.answer("dispute right wrong"))
        self.assertEqual("part 2 first", desk.answer("dispute wrong right"))
        desk.answers(["claim right none five 9"])
        self.assertEqual("part 1 second", desk.answer("dispute right wrong"))
        # A claim and its copy of a list are not the item.
        desk = filled()
        self.assertEqual(["ok", "ok"], desk.answers(["spoil right 0 3", "spoil wrong 0 3"]))
        self.assertEqual(ECHO, desk.content("echo"))


class BadLinesTest(unittest.TestCase):
    def check(self, answer, *lines):
        """The answer to each line, and the desk does not change."""
        desk = filled()
        for line in lines:
            self.assertEqual(answer, desk.answer(line), line)
        self.assertEqual(seen(filled()), seen(desk))

    def test_malformed(self):
        self.check("bad", "", " ", "audit ", " audit", "show  five", "show five ", "show\nfive", "show five\n",
                   "\naudit", "text", "text ", "text  a", "text  ", "text a\n", "text a b\nc")
        for sign in NO_CHARACTERS:
            self.check("bad", sign, f"show five{sign}", f"text a {sign}", f"show {sign}")

    def test_commands(self):
        self.check("bad", "Show five", "shows five", "clone entry other", "names", "state", "x", "5", "audits",
                   "texts a b", "seed new program", "display five")

    def test_the_right_lines(self):
        for line in SHAPES:
            # The trap's words are right, but its binary is not.
            expected = ["refused"] if line.startswith("trap") else []
            found = [word for word in ("bad", "unknown", "refused") if filled().answer(line).startswith(word)]
            self.assertEqual(expected, found, line)

    def test_too_few_and_too_many_words(self):
        for line in SHAPES:
            words = line.split(" ")
            # Two commands have words that may be left out, and as many as one likes.
            least = {"numbers": 2, "rule": 3}.get(words[0], len(words))
            self.check("bad", *[" ".join(words[:many]) for many in range(least)])
            if least == len(words):
                self.check("bad", line + " five", line + " 9", line + " five five")
        self.check("bad", "text")

    def test_names(self):
        for line, shape in SHAPES.items():
            words = line.split(" ")
            for at, letter in enumerate(shape, 1):
                if letter in "NIEC":
                    self.check("bad", *[" ".join(words[:at] + [name] + words[at + 1:]) for name in BAD_NAMES])
        self.check("bad", "text A b", "text abcdefghijklm b", "text 9", "rule new TOOL", "rule new tool source a b C d")

    def test_numerals(self):
        for line, shape in SHAPES.items():
            words = line.split(" ")
            for at, letter in enumerate(shape, 1):
                numerals = BAD_NUMERALS if letter in "XF" else []
                if letter == "F":
                    numerals = numerals + ["-1", "100001", "9" * 60]
                self.check("bad", *[" ".join(words[:at] + [numeral] + words[at + 1:]) for numeral in numerals])
        self.check("bad", "numbers new 1 x", "numbers new x 1", "numbers new 1 2 3 -0")

    def test_fuel_in_its_range(self):
        for fuel in ("0", "100000"):
            for line in ("run new echo five ", "build ", "make new plain program other ", "claim new echo five "):
                self.assertNotEqual("bad", filled().answer(line + fuel))

    def test_unknown(self):
        for line, shape in SHAPES.items():
            words = line.split(" ")
            for at, letter in enumerate(shape, 1):
                if letter in "IEC":
                    self.check("unknown x", " ".join(words[:at] + ["x"] + words[at + 1:]))

    def test_names_of_another_sort(self):
        self.check("unknown entry", "show entry", "run new entry five 9", "trap entry entry none")
        self.check("unknown five", "swap five entry", "take new five", "spoil five 0 0",
                   "make new plain program five 9")
        self.check("unknown right", "show right", "take new right", "copy entry right")
        self.check("unknown other", "dispute other right", "dispute right other")
        self.check("unknown made", "show made", "trim new made")

    def test_the_first_word_that_is_unknown(self):
        for line, word in (("run x y z 9", "y"), ("run x five z 9", "z"), ("put x plain y z", "y"),
                           ("put x plain five z", "z"),
                           ("make x plain y z 9", "y"), ("make x plain five z 9", "z"), ("make x nokind y z 9", "y"),
                           ("swap x y", "x"), ("swap entry y", "y"), ("copy x y", "x"), ("copy entry y", "y"),
                           ("trap x y z", "x"), ("trap entry y z", "y"), ("trap entry five z", "z"),
                           ("claim x y z 9", "y"),
                           ("claim x echo z 9", "z"), ("dispute x y", "x"), ("dispute right y", "y"), ("take x y", "y"),
                           ("damage x -5 0", "x"), ("spoil x 99 0", "x"), ("digits x y", "y"), ("trim five x", "x")):
            self.check("unknown " + word, line)

    def test_bad_before_unknown_before_refused(self):
        self.check("bad", "run new x y 100001", "run new x y", "swap x Y", "damage x 0 z", "put X twig a b",
                   "trap x y Z")
        self.check("unknown x", "damage x -1 0", "put new twig x five", "trap entry x none", "spoil x -1 0")

    def test_refused(self):
        self.check("refused", "damage entry 9 0", "trap entry five none", "trap entry none none",
                   "put new twig program echo",
                   "put new plain five echo", "make new twig program other 9", "needs nothing", "spoil right 3 0")


class LinesTest(unittest.TestCase):
    def test_answers(self):
        self.assertEqual([], Desk().answers([]))
        desk = Desk()
        self.assertEqual(["ok", "bad", "5 6", "unknown b"], desk.answers(["numbers a 5 6", "", "show a", "show b"]))
        self.assertEqual(["5 6"], desk.answers(["show a"]))

    def test_the_first_lines_of_a_list(self):
        source = random.Random(263)
        for _ in range(30):
            lines = LINES + some_lines(source, 30)
            answers = Desk().answers(lines)
            for size in (0, 1, source.randrange(len(lines)), len(lines)):
                self.assertEqual(answers[:size], Desk().answers(lines[:size]))
            one = Desk()
            self.assertEqual(answers, [one.answer(line) for line in lines])

    def test_desks_of_their_own(self):
        one, other = Desk(), Desk()
        one.answers(LINES)
        self.assertEqual(([], "clean", "refused"), (other.names(), other.answer("audit"), other.answer("needs made")))


def some_lines(source, many):
    """Lines of all commands, most of them right ones."""
    lines = []
    names = {"N": ["a", "b", "five", "program"], "I": ["echo", "copy", "five", "none", "program", "a", "b"],
             "E": ["entry", "other", "a"], "C": ["right", "wrong", "a"], "X": ["0", "1", "2", "-1", "39"],
             "F": ["0", "3", "100", "x"], "W": ["plain", "short", "digits", "turned", "twig"]}
    for _ in range(many):
        line, shape = source.choice(list(SHAPES.items()))
        words = [source.choice(names[letter]) for letter in shape]
        lines.append(" ".join([line.split(" ")[0]] + words))
    return lines


if __name__ == "__main__":
    unittest.main()
