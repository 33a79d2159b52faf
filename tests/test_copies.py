"""Arguments stay as they are, and no result shares a list: point [0]."""

import unittest

from plinth import alike, audit, build, builds, claims, desk, digits, disputes, generations, journal, link, lists
from plinth import machine, meaning, merge, modules, nodes, origin, plans, printing, quines, reading, rungs, saves, seed
from plinth import shelf, short, signs, story, threads, translate, traps, trees, trim, twins, untranslate, words
from tests.helpers import cells
from tests.sharing import check_call, containers

IMAGE = cells((0, 44, 0, 1), (1, 34, 0, 2), (2, 61, 97, 3), (3, 46, 0, 4)) + [5, 6]
STATE = (1, (7,), ((3, 4),), (5,), 1, (6,))


class CopiesTest(unittest.TestCase):
    def test_signs(self):
        check_call(self, signs.codes_of, ["ab"])
        check_call(self, signs.text_of, [[97, 98]])
        check_call(self, signs.readable, [[97, 98]])
        check_call(self, signs.readable, [[97, -1, 98]])

    def test_nodes(self):
        check_call(self, nodes.nodes_of, [IMAGE])
        check_call(self, nodes.image_of, [[(1, 2, 3, 4), (5, 6, 7, 8)]])
        check_call(self, nodes.image_of, [[]])

    def test_machine(self):
        ended, output, steps = check_call(self, machine.run, [IMAGE, [7, 8]], fuel=9)
        self.assertEqual((True, [7], 4), (ended, output, steps))
        output.append(8)
        self.assertEqual((True, [7], 4), machine.run(IMAGE, [7, 8], fuel=9))

    def test_states(self):
        image, numbers = list(IMAGE), [7, 8]
        one, other = machine.State(image, numbers), machine.State(image, numbers)
        one.advance(fuel=9)
        self.assertEqual((IMAGE, [7, 8]), (image, numbers))
        mine = containers((one.stack, one.back, one.output, one.store))
        theirs = containers((other.stack, other.back, other.output, other.store))
        self.assertFalse(mine & theirs)

    def test_story(self):
        numbers = [7, 8]
        check_call(self, story.start, [IMAGE, numbers])
        check_call(self, story.next_state, [IMAGE, numbers, STATE])
        check_call(self, story.state_after, [IMAGE, numbers, 3])
        check_call(self, story.footprint, [IMAGE, numbers, STATE])
        self.assertEqual(5, len(check_call(self, story.story, [IMAGE, numbers], fuel=9)))

    def test_digits(self):
        check_call(self, digits.read_digits, [[49, 32, 50]])
        check_call(self, digits.write_digits, [[7, 12]])
        check_call(self, digits.write_digits, [[]])

    def test_short(self):
        check_call(self, short.translate_short, [[43, 39, 97, -1, 43]])
        check_call(self, short.translate_short, [[]])
        reader, piece = short.ShortReader(), [43, 39, 97]
        reader.feed(piece)
        self.assertEqual([43, 39, 97], piece)
        image, again = reader.image(), reader.image()
        self.assertFalse(containers(image) & containers([piece, again]))

    def test_lists(self):
        image = cells((0, 35, 5, 1), (1, 46, 0, 2))
        check_call(self, lists.listing, [image])
        check_call(self, lists.can_list, [image])
        check_call(self, lists.can_list, [image + [1]])

    def test_trees(self):
        tree = [("choose", [("num", 1)], [("loop", [])]), ("def", 70, [("num", 2), ("num", 3)]), ("def", 65, [])]
        check_call(self, trees.depth_of, [tree])
        check_call(self, trees.size_of, [tree])
        check_call(self, trees.defined_in, [tree])
        check_call(self, trees.defined_in, [[]])
        check_call(self, printing.write, [tree])

    def test_reading(self):
        tree = check_call(self, reading.read, ["[1|{}]:F2 3;[]{}"])
        self.assertEqual(7, len(containers(tree)))
        check_call(self, reading.read, [""])

    def test_translate(self):
        check_call(self, translate.translate, [[43, 49, 39, 97, -1, 43]])
        check_call(self, translate.translate, [[43]], first=-1, by=-1)
        check_call(self, translate.translate, [[]])
        one, other = translate.Translator(), translate.Translator()
        self.assertFalse(containers((one.image, one.pile)) & containers((other.image, other.pile)))
        image, again = one.finish(), one.finish()
        self.assertFalse(containers(image) & containers([one.image, again]))

    def test_meaning(self):
        tree = [("choose", [("num", 1)], [("loop", [])]), ("def", 70, [("op", 46)]), ("op", 70), ("op", 46)]
        check_call(self, meaning.mean, [tree, [5, 6], 20])
        check_call(self, untranslate.untranslate, [translate.translate(signs.codes_of("[1|{2}]:F3;"))])
        check_call(self, untranslate.untranslate, [IMAGE])

    def test_changes_of_images(self):
        closed = cells((0, 32, 0, 300), (300, 63, 301, 302), (301, 32, 0, 302), (302, 70, 0, 5), (400, 43, 0, 0)) + [7]
        for image in (closed, [0, 38, 0, 1], []):
            for call in (threads.reachable, threads.is_closed, trim.thread, trim.fold, trim.prune, trim.renumber,
                         trim.trim, trim.certificate, merge.classes, merge.merge, merge.canonical):
                check_call(self, call, [image])
            check_call(self, threads.target, [image, 0])
            check_call(self, threads.accepts, [image, trim.prune(trim.thread(image)), trim.certificate(image)])

    def test_tower(self):
        check_call(self, seed.seed_image, [])
        check_call(self, rungs.rung_names, [])
        texts, codes = (("plain", "5"), ("plain", "6")), [49, 50]
        tower = build.Tower(texts=texts)
        tower.finish()
        self.assertEqual((("plain", "5"), ("plain", "6")), texts)
        for name in tower:
            check_call(self, tower.binary, [name])
        for kind in ("digits", "short", "plain", "turned"):
            check_call(self, tower.serve, [kind, codes])

    def test_plans_and_builds(self):
        given = {"copy": list(IMAGE), "text": [5, 6]}
        plan = [("b", "copy", ("a", "text")), ("a", "copy", ("text",))]
        for call in (plans.check_plan, plans.order_of):
            check_call(self, call, [plan, given])
        for call in (plans.needs, plans.users):
            check_call(self, call, [plan, given, "a"])
        check_call(self, plans.part_of, [plan, given, ["a"]])
        check_call(self, builds.build_all, [plan, given], fuel=100)
        check_call(self, builds.is_built, [plan, given, {"a": [5]}, "a"], fuel=100)
        one = builds.Build(plan, given, fuel=100)
        one.finish()
        for name in ("a", "b", "copy"):
            content = check_call(self, one.content, [name])
            self.assertFalse(containers(content) & containers(given))
        check_call(self, one.record, [])
        other = builds.go_on(one.record())
        mine, theirs = one.content("a"), other.content("a")
        self.assertFalse(containers(mine) & containers(theirs))

    def test_comparisons_of_binaries(self):
        image = cells((0, 44, 0, 1), (1, 46, 0, 2), (2, 35, 46, 3), (3, 46, 0, 200))
        check_call(self, generations.child, [image, "A"])
        check_call(self, generations.generations, [image, "A", 3])
        check_call(self, generations.settle, [image, "A"])
        check_call(self, generations.settle, [[], "A"])
        check_call(self, twins.double, [[5], image, "A"])
        check_call(self, twins.cross, [[image, []], ["A", "B"]])
        check_call(self, twins.second_cross, [[image, []], ["A", "B"]])
        check_call(self, alike.renaming, [image, image])
        check_call(self, alike.with_numbers, [image + [200]], first=-1, by=-1)

    def test_traps(self):
        image = translate.translate(signs.codes_of("2."))
        whole = check_call(self, traps.plant, [image, [1, 2], [5, 6, 7, 8]])
        check_call(self, traps.planted, [whole])
        check_call(self, traps.cleaned, [whole])
        self.assertIsNone(check_call(self, traps.planted, [image]))

    def test_shelf_and_audit(self):
        tower = build.Tower()
        tower.finish()
        entries, binary = shelf.Shelf(), list(IMAGE)
        for method, arguments in ((entries.put, ["a", "plain", "2.", binary]), (entries.put, ["b", "short", "5#", []]),
                                  (entries.clone, ["a", "b"]), (entries.swap, ["a", "b"]),
                                  (entries.damage, ["a", 0, 5])):
            method(*arguments)
            self.assertEqual(IMAGE, binary)
        self.assertFalse(containers([entries.binary("a"), entries.binary("b")]) & containers(binary))
        one, other = entries.binary("a"), entries.binary("b")
        self.assertFalse(containers(one) & containers(other))
        for name in ("a", "b"):
            check_call(self, entries.binary, [name])
        check_call(self, entries.names, [])
        check_call(self, audit.due, ["plain", "2."])
        check_call(self, audit.first_difference, [[1, 2], [1, 3]])
        before = [(name, entries.binary(name)) for name in entries.names()]
        check_call(self, lambda: audit.audit(entries), [])
        check_call(self, lambda: audit.rebuild(entries, tower), [])
        self.assertEqual(before, [(name, entries.binary(name)) for name in entries.names()])

    def test_claims_and_disputes(self):
        claim = check_call(self, claims.right_claim, [IMAGE, [7, 8]], fuel=99)
        wrong = claim[:2] + [STATE]
        check_call(self, claims.result_of, [claim])
        check_call(self, claims.entry, [claim, 2])
        for index in (0, 2, 99):
            check_call(self, claims.due, [IMAGE, [7, 8], claim, index])
        check_call(self, claims.first_fault, [IMAGE, [7, 8], wrong])
        check_call(self, disputes.dispute, [IMAGE, [7, 8], claim, wrong])
        check_call(self, disputes.settle, [IMAGE, [7, 8], [wrong, claim, claim]])

    def test_origins(self):
        self.assertEqual([[0]], check_call(self, origin.origins, [IMAGE, [7, 8]], fuel=99))
        check_call(self, origin.control, [[0, 44, 0, 1, 1, 63, 0, 0], [7, 8]], fuel=99)

    def test_links_and_libraries(self):
        module, image = translate.translate(signs.codes_of(":F1+;")), translate.translate(signs.codes_of("2F."))
        check_call(self, link.is_linkable, [image])
        check_call(self, link.exit_of, [image])
        for images in ([], [image], [module, image], [image, image]):
            check_call(self, link.link, [images])
        for call in (modules.defines, modules.calls, modules.is_silent):
            check_call(self, call, [module])
        library = modules.Library()
        library.add("a", module)
        one, other = library.image("a"), library.image("a")
        self.assertEqual(translate.translate(signs.codes_of(":F1+;")), module)
        self.assertFalse(containers([one]) & containers([other, module]))
        for call in (library.needed, library.missing, library.joined):
            check_call(self, call, [image])

    def test_saved_runs(self):
        check_call(self, saves.checksum, [[1, 2]])
        saved = check_call(self, saves.save, [IMAGE, [7, 8], STATE], steps=3)
        check_call(self, saves.load, [saved])
        check_call(self, saves.fault_at, [saved])
        check_call(self, saves.fault_at, [saved[:-1]])
        check_call(self, saves.continued, [saved], fuel=0)
        check_call(self, saves.continued, [saved], fuel=9)

    def test_trials(self):
        state = machine.State(IMAGE, [7, 8])
        state.advance(fuel=2)
        parts = (state.stack, state.store, state.back, state.output)
        before = ([7, 7], {}, [], [])
        for call in (lambda: saves.tried(state, fuel=9), lambda: saves.tried_twice(state, first=1, second=9)):
            check_call(self, call, [])
            self.assertEqual(before, parts)
            self.assertEqual((before, 2), ((state.stack, state.store, state.back, state.output), state.steps))

    def test_quines(self):
        check_call(self, quines.list_writer, [[]])
        check_call(self, quines.list_writer, [[1, 2]])
        for payload in ([], [200, 1, 2]):
            image = check_call(self, quines.self_image, [payload])
            check_call(self, quines.is_self_writer, [image])
        images = check_call(self, quines.ring_images, [3])
        self.assertEqual(4, len(containers(images)))
        check_call(self, quines.is_ring, [images])

    def test_words(self):
        for line in ("show a", "text a b", "text a", "a"):
            check_call(self, words.words_of, [line])

    def test_desk(self):
        one, lines = desk.Desk(), ["numbers a 0 44 0 1", "text b xy", "run c a b 9", "put e plain b a", "take d e",
                                   "rule f a b"]
        self.assertEqual(["ok", "ok", "ended 1", "ok", "4", "ok"],
                         check_call(self, lambda: desk.Desk().answers(lines), []))
        answers = one.answers(lines)
        self.assertEqual("numbers a 0 44 0 1", lines[0])
        self.assertFalse(containers(answers) & containers(lines))
        check_call(self, one.names, [])
        for name in ("a", "b", "c", "d"):
            check_call(self, one.content, [name])

    def test_journal(self):
        one, lines = journal.Journal(), ["numbers a 5 6", "show a"]
        check_call(self, lambda: journal.attempt(one, lines), [])
        journal.attempt(one, lines, keep=True)
        self.assertEqual(["numbers a 5 6", "show a"], lines)
        check_call(self, one.lines, [])
        check_call(self, one.content, ["a"])
        mine, theirs = one.content("a"), journal.resume(one.record()).content("a")
        self.assertFalse(containers(mine) & containers(theirs))


if __name__ == "__main__":
    unittest.main()
