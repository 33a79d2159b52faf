"""Programs that write themselves, and texts that know themselves: points [240] to [249]."""

import random
import unittest

from plinth.errors import BadFuel, BadPayload, NotBalanced, NotText
from plinth.machine import State, run
from plinth.nodes import nodes_of
from plinth.printing import write
from plinth.quines import (
    is_balanced, is_ring, is_self_writer, list_writer, own_text, ring_images, self_image, self_image_text, self_text,
)
from plinth.translate import translate
from tests.helpers import CHARACTERS, HUGE, cells, codes, some_tree

PAYLOADS = [[], [200], [-1, 0, 0, 0], [200, 41, 0, 1, 201, 38, 0, 0], [HUGE, 0, 0, 0, -HUGE, 199],
            [200, 0, 199, 5, 999], [-1] * 101, [200, 35, 7, 1] * 50]
BAD_PAYLOADS = [[0], [199], [5, 5, 5, 5], [200, 1, 1, 1, 100], [200, 1, 1, 1, 0, 1], [-1, 0, 0, 0, -1, 0, 0, 0, 7],
                [200] * 400 + [0]]


class ListWriterTest(unittest.TestCase):
    def test_lists(self):
        source = random.Random(241)
        lists = [[], [0], [38], [-1, HUGE, -HUGE], list(range(300)), [5] * 7]
        lists += [[source.randrange(-300, 300) for _ in range(source.randrange(40))] for _ in range(20)]
        for numbers in lists:
            image = list_writer(numbers)
            ended, output, steps = run(image, [], fuel=2 * len(numbers) + 1)
            self.assertEqual((True, numbers), (ended, output))
            self.assertNotIn(38, [node[1] for node in nodes_of(image)])
            self.assertEqual(0, len(image) % 4)
            self.assertLessEqual(steps, 2 * len(numbers) + 1)

    def test_an_image_that_writes_an_image(self):
        for numbers in ([7, 8], list_writer([7, 8])):
            image = list_writer(list_writer(numbers))
            written = run(image, [], fuel=9999)[1]
            self.assertEqual(numbers, run(written, [], fuel=9999)[1])


class SelfImageTest(unittest.TestCase):
    def test_payloads(self):
        for payload in PAYLOADS:
            image = self_image(payload)
            self.assertEqual(payload, image[len(image) - len(payload):])
            head = len(image) - len(payload)
            self.assertLessEqual(head, 100)
            self.assertEqual(0, head % 4)
            ended, output, steps = run(image, [], fuel=15 * len(image) + 10)
            self.assertEqual((True, image), (ended, output))
            self.assertLessEqual(steps, 15 * len(image) + 10)
            self.assertIs(True, is_self_writer(image, fuel=15 * len(image) + 10))

    def test_some_payloads(self):
        source = random.Random(242)
        for _ in range(100):
            payload = [source.choice([source.randrange(200), -1, 200, HUGE]) for _ in range(source.randrange(30))]
            payload[::4] = [source.choice([-1, -200, 200, 201, 232, HUGE]) for _ in payload[::4]]
            self.assertTrue(is_self_writer(self_image(payload)))

    def test_payloads_that_are_not_allowed(self):
        for payload in BAD_PAYLOADS:
            with self.assertRaises(BadPayload):
                self_image(payload)

    def test_is_self_writer(self):
        self.assertIs(True, is_self_writer([]))
        self.assertIs(True, is_self_writer([], fuel=0))
        for image in ([0, 32, 0, 0], [0], [0, 46, 0, 1], list_writer([1]), self_image([]) + [5], self_image([])[:-1]):
            self.assertIs(False, is_self_writer(image))
        steps = run(self_image([]), [], fuel=999)[2]
        self.assertIs(True, is_self_writer(self_image([]), fuel=steps))
        self.assertIs(False, is_self_writer(self_image([]), fuel=steps - 1))
        # The output is right before the run ends.
        self.assertEqual(self_image([]), run(self_image([]), [], fuel=steps - 1)[1])

    def test_the_default_fuel(self):
        self.assertEqual(99996, run(self_image([200] * 14253), [], fuel=10 ** 6)[2])
        for more, writes in ((4, True), (5, False)):
            # The image goes on over some nops behind its last step.
            nops = cells(*[(8 + at, 32, 0, 9 + at) for at in range(more)])
            image = self_image([200] * 14253)
            image[32:32 + len(nops)] = nops
            self.assertIs(writes, is_self_writer(image))
            self.assertIs(writes, is_ring([image]))

    def test_bad_fuel(self):
        for image in ([], self_image([])):
            for fuel in (-1, -HUGE):
                with self.assertRaises(BadFuel):
                    is_self_writer(image, fuel=fuel)


class RingTest(unittest.TestCase):
    def test_sizes(self):
        for size in (1, 2, 3, 17, 99, 100):
            images = ring_images(size)
            self.assertEqual(size, len(images))
            self.assertEqual(1, len({len(image) for image in images}))
            self.assertLessEqual(len(images[0]), 200)
            for at, image in enumerate(images):
                self.assertEqual((True, images[(at + 1) % size]), run(image, [], fuel=100000)[:2])
                for other in images[:at]:
                    self.assertEqual(1, sum(one != two for one, two in zip(image, other)))
            self.assertIs(True, is_ring(images))

    def test_bad_sizes(self):
        for size in (0, -1, 101, HUGE, -HUGE):
            with self.assertRaises(BadPayload):
                ring_images(size)

    def test_is_ring(self):
        images = ring_images(5)
        self.assertIs(True, is_ring(images[2:] + images[:2]))
        self.assertIs(True, is_ring(images + images))
        self.assertIs(True, is_ring([self_image([200])]))
        self.assertIs(True, is_ring([self_image([200])] * 3))
        self.assertIs(True, is_ring([[]]))
        self.assertIs(False, is_ring([]))
        for at in range(5):
            self.assertIs(False, is_ring(images[:at] + images[at + 1:]), "left out")
            self.assertIs(False, is_ring(images[:at] + [images[at] + [0]] + images[at + 1:]), "longer")
            self.assertIs(False, is_ring(images[:at] + [images[at][:-1]] + images[at + 1:]), "shorter")
            self.assertIs(False, is_ring(images[:at] + [self_image([])] + images[at + 1:]), "another one")
            for other in range(at):
                exchanged = list(images)
                exchanged[at], exchanged[other] = exchanged[other], exchanged[at]
                self.assertIs(False, is_ring(exchanged), "exchanged")
        self.assertIs(False, is_ring(images[::-1]))
        for at in range(5):
            self.assertIs(False, is_ring([images[at]]))

    def test_fuel(self):
        images = ring_images(3)
        most = max(run(image, [], fuel=9999)[2] for image in images)
        self.assertIs(True, is_ring(images, fuel=most))
        self.assertIs(False, is_ring(images, fuel=most - 1))
        steps = run(self_image([]), [], fuel=999)[2]
        self.assertIs(True, is_ring([self_image([])], fuel=steps))
        self.assertIs(False, is_ring([self_image([])], fuel=steps - 1))
        for fuel in (-1, -HUGE):
            for ring in (images, []):
                with self.assertRaises(BadFuel):
                    is_ring(ring, fuel=fuel)


class BalancedTest(unittest.TestCase):
    def test_examples(self):
        for text in ("[a|b]", "", "a'["):
            self.assertIs(True, is_balanced(text))
        for text in ("a]", "{a", "[a", "a="):
            self.assertIs(False, is_balanced(text))

    def test_texts(self):
        for text in ("'[", "=]", ":};", "[]", "{}", ":F;", "[|]", "[||]", "[}", "{]", "[;", "{|}", ":F|;", "''", "==",
                     "'=", "=:", "':", "=[", "1 2", "W&($?", ":[;", ":];", "[[]{}]:F[];"):
            self.assertIs(True, is_balanced(text), text)
        for text in ("[", "{", ":F", "]", "}", ";", "|", "a|", "[]]", "[|", "[]|", "{}|[", "}{", ";:F", "'", "=", ":",
                     "a'", "'='", "[=]", "['", ":;", "[']", "{}}", "[[]", ":F;;", "][", "|[]", "|]", "|}", "[]|;",
                     "]{", "}:F", ";["):
            self.assertIs(False, is_balanced(text), text)

    def test_trees(self):
        source = random.Random(244)
        for _ in range(100):
            self.assertTrue(is_balanced(write(some_tree(source))))

    def test_not_text(self):
        for text in ("\t", "a\u0025", "]\u00e4", "[\r"):
            with self.assertRaises(NotText):
                is_balanced(text)


def prepared(text, whole, numbers):
    """The prepared state of [245] for a text, of the run of another text's translation."""
    state = State(translate(codes(text)), numbers)
    state.store = {1000000 + at: code for at, code in enumerate(codes(whole))}
    state.store[122] = len(whole)
    return state


class OwnTextTest(unittest.TestCase):
    def check(self, text, numbers=(), fuel=3000):
        whole = own_text(text)
        self.assertTrue(whole.endswith(text))
        self.assertLessEqual(len(whole), 4 * (len(text) + 250))
        right = prepared(text, whole, list(numbers))
        right.advance(fuel=fuel)
        if not right.has_ended():
            return False
        most = 20 * len(whole) + right.steps
        ended, output, _ = run(translate(codes(whole)), list(numbers), fuel=most)
        self.assertEqual((True, right.output), (ended, output), text)
        return True

    def test_the_example(self):
        whole = own_text("z.")
        self.assertEqual((True, [len(whole)]), run(translate(codes(whole)), [], fuel=99999)[:2])

    def test_texts(self):
        for text in ("", "1", "z.", "7.", "_a.", ".", "....", ",.,.", "{,\".,\"0<0~}", ":F2.;F", ":FG3;:G.;FF", ":Fa;",
                     "1000000@.1000001@.999999@.", "z1-1000000+@.", "z1000000+@.z999999+@.", "a.b.x.y.z.", "xyz+++.",
                     "'a.''.' .'\n.'=.':.", "1=a2=b a.b.", "0[1.|2.]", "5[1.|2.]", "=zz.", "5 1000000!1000000@.",
                     "Q1.", ")1.",
                     "1.)2.", "'[.'].", "\n", " ", "^,.^,.", "0 0\\.", "\"..", "~.", "*.", "~", "`", "@.", "!x."):
            for numbers in ([], [5, 6], [0, 1, -1]):
                self.assertTrue(self.check(text, numbers), text)

    def test_it_writes_itself(self):
        text = "{i1000000+@.i1+=iiz-}"
        whole = own_text(text)
        self.assertEqual((True, codes(whole)), run(translate(codes(whole)), [], fuel=99999)[:2])
        # The other way round.
        text = "z{1-\"1000000+@.\"}"
        whole = own_text(text)
        self.assertEqual((True, codes(whole)[::-1]), run(translate(codes(whole)), [], fuel=99999)[:2])

    def test_all_characters(self):
        text = "".join("'" + sign for sign in CHARACTERS if sign not in "&($?W") + "{.\"}"
        self.assertTrue(self.check(text))
        self.assertTrue(self.check("'a" * 2000 + "z."))

    def test_trees(self):
        source = random.Random(246)
        ended = 0
        for _ in range(150):
            text = write(some_tree(source, small="abxyz", capital="FGW"))
            if any(sign in text for sign in "&($?W"):
                continue
            ended += self.check(text, [3, 0, 70], fuel=300)
        self.assertGreater(ended, 30)

    def test_texts_that_are_balanced_without_being_trees(self):
        source = random.Random(247)
        signs = "[|]{};'=:" * 2 + "F1 .a,\"+"
        tested = ended = 0
        while tested < 150:
            text = "".join(source.choice(signs) for _ in range(source.randrange(1, 12)))
            if is_balanced(text):
                tested += 1
                ended += self.check(text, [3, 0], fuel=300)
        self.assertGreater(ended, 50)

    def test_not_balanced(self):
        for text in ("a]", "{a", "[a", "a=", "'", ":", ":F", ";", "|", "}"):
            with self.assertRaises(NotBalanced):
                own_text(text)

    def test_characters_that_are_not_allowed(self):
        for sign in "&($?W":
            for text in (sign, "a" + sign, sign + "a", "'" + sign, "=" + sign, ":" + sign + ";", "[" + sign + "]"):
                self.assertTrue(is_balanced(text))
                with self.assertRaises(NotBalanced):
                    own_text(text)

    def test_not_text_before_not_balanced(self):
        for text in ("\t", "]\t", "&\u00e4", "W\u0025", "{a\r"):
            with self.assertRaises(NotText):
                own_text(text)


class SelfTextTest(unittest.TestCase):
    def test_self_text(self):
        text = self_text()
        self.assertLessEqual(len(text), 1200)
        self.assertNotIn("&", text)
        ended, output, _ = run(translate(codes(text)), [], fuel=100000)
        self.assertEqual((True, codes(text)), (ended, output))

    def test_self_image_text(self):
        text = self_image_text()
        self.assertLessEqual(len(text), 100)
        image = translate(codes(text))
        self.assertEqual((True, image), run(image, [], fuel=100000)[:2])
        self.assertTrue(is_self_writer(image))


if __name__ == "__main__":
    unittest.main()
