"""Point 18.1: images."""

import random
import unittest

from placedanyhow.coding import encode
from placedanyhow.compiling import compile_thread
from placedanyhow.errors import CodeError, PlacedError
from placedanyhow.images import build_images, read_image
from placedanyhow.placement import make_plan
from placedanyhow.threads import threads
from tests.cores import draw_core
from tests.parts import NOTHING, SKIP, STOP, alt, at, cell, give, num, par, put, repeat, seq, take, when
from tests.support import frozen, is_plain

ROW = (3, [(0, 1), (1, 2)])

# Thread 0 takes the cells 0, 1, 2 and starts 1 and 3; thread 1 starts 2, which takes nothing.
NESTED = (
    "core", 3, ["out", "inner"],
    seq(
        par(
            (1, seq(par((2, give(1, num(8)))), put(cell(1), cell(0)))),
            (3, take(1, cell(2))),
        ),
        give(0, cell(2)),
    ),
)
THREAD_0 = [0, 0, 3, 3, 0, 1, 2, 2, 1, 2, 14, 14, 2, 1, 2, 0, 1, 3, 1, 2, 1, 2, 11, 0, 15]
THREAD_1 = [1, 1, 2, 2, 0, 1, 1, 1, 9, 14, 1, 2, 0, 1, 0, 2, 1, 15]
THREAD_2 = [2, 2, 0, 0, 0, 5, 0, 8, 11, 1, 15]
THREAD_3 = [3, 1, 1, 1, 2, 1, 2, 5, 12, 1, 2, 0, 15]

# A thread with instructions of each kind.
EVERY = (
    "core", 4, ["in", "inner", "out"],
    seq(
        alt((None, 0, at(0, 2, num(1)), STOP), (cell(2), 1, cell(3), SKIP)),
        alt(),
        par(),
        par((1, give(1, ("neg", at(0, 2, cell(3))))), (2, STOP)),
        repeat(3, ("not", cell(2)), put(at(0, 2, cell(3)), ("mod", num(7), cell(2)))),
        when(("<=", cell(2), num(1)), take(0, cell(2)), give(2, num(65535))),
    ),
)
OPCODES = {
    "push", "load", "store", "loadx", "storex", "check", "neg", "not", "calc", "jump", "jzero", "give",
    "take", "either", "fork", "end", "stop",
}


def plan_of(core, network, places):
    return make_plan(core, network, places, [0] * len(core[2]))


def expected_image(core, here):
    """The image of a processor with these threads, as point 18.1 describes it."""
    words = [len(here)]
    for t in here:
        parent, takes, gives, _ = threads(core)[t]
        places, code = compile_thread(threads(core)[t])
        instructions = sum([encode(one) for one in code], [])
        words += [t, 0 if parent is None else 1 + parent, places, len(takes), *takes, len(gives), *gives]
        words += [len(instructions), *instructions]
    return words


def expected_threads(core, here):
    found = {}
    for t in here:
        parent, takes, gives, _ = threads(core)[t]
        places, code = compile_thread(threads(core)[t])
        found[t] = (parent, places, takes, gives, code)
    return found


class BuildTest(unittest.TestCase):
    def check(self, core, network, places, images):
        plan = plan_of(core, network, places)
        before = frozen((core, plan.links, plan.threads, plan.homes, plan.hops))
        found = build_images(core, plan)
        self.assertEqual(frozen(found), frozen(images))
        self.assertTrue(is_plain(found))
        self.assertEqual(frozen((core, plan.links, plan.threads, plan.homes, plan.hops)), before)

    def test_the_example(self):
        core = ("core", 1, [], put(cell(0), num(9)))
        self.check(core, (2, [(0, 1)]), [1], [[0], [1, 0, 0, 1, 1, 0, 1, 0, 5, 0, 9, 2, 0, 15]])

    def test_one_processor(self):
        self.check(NESTED, (1, []), [0] * 4, [[4] + THREAD_0 + THREAD_1 + THREAD_2 + THREAD_3])
        self.check(("core", 0, [], SKIP), (1, []), [0], [[1, 0, 0, 0, 0, 0, 1, 15]])

    def test_several_processors(self):
        self.check(NESTED, ROW, [0, 1, 2, 1], [[1] + THREAD_0, [2] + THREAD_1 + THREAD_3, [1] + THREAD_2])
        self.check(NESTED, ROW, [2, 1, 1, 0], [[1] + THREAD_3, [2] + THREAD_1 + THREAD_2, [1] + THREAD_0])

    def test_processors_without_threads(self):
        self.check(NESTED, ROW, [1, 1, 1, 1], [[0], [4] + THREAD_0 + THREAD_1 + THREAD_2 + THREAD_3, [0]])
        self.check(NESTED, ROW, [0, 0, 2, 0], [[3] + THREAD_0 + THREAD_1 + THREAD_3, [0], [1] + THREAD_2])
        self.check(("core", 0, [], STOP), (6, [(0, k) for k in range(1, 6)]), [5], [[0]] * 5 + [[1, 0, 0, 0, 0, 0, 2, 16, 15]])

    def test_several_takes_and_fewer_gives(self):
        core = ("core", 9, [], put(cell(3), ("+", cell(8), at(4, 2, cell(1)))))
        code = [1, 4, 1, 0, 3, 2, 2, 8, 0, 2, 1, 15]
        self.check(core, (1, []), [0], [[1, 0, 0, 5, 5, 1, 3, 4, 5, 8, 1, 3, len(code)] + code])

    def test_no_gives(self):
        core = ("core", 1, ["out"], give(0, cell(0)))
        self.check(core, (1, []), [0], [[1, 0, 0, 1, 1, 0, 0, 5, 1, 0, 11, 0, 15]])

    def test_more_places_than_takes(self):
        core = ("core", 1, [], repeat(2, num(1), SKIP))
        found = build_images(core, plan_of(core, (1, []), [0]))[0]
        self.assertEqual(found[:6], [1, 0, 0, 1, 0, 0])

    def test_instructions_of_each_kind(self):
        kinds = {one[0] for thread in threads(EVERY) for one in compile_thread(thread)[1]}
        self.assertEqual(kinds, OPCODES)
        for places in ([0, 0, 0], [1, 0, 1], [0, 1, 2], [2, 2, 1]):
            here = [[t for t in range(3) if places[t] == p] for p in range(3)]
            self.check(EVERY, ROW, places, [expected_image(EVERY, row) for row in here])

    def test_drawn_cores(self):
        rng = random.Random(101)
        for number in range(60):
            core, _ = draw_core(rng, alts=number % 2 == 1)
            processors = rng.randrange(1, 7)
            places = [rng.randrange(processors) for _ in threads(core)]
            here = [[t for t, p in enumerate(places) if p == q] for q in range(processors)]
            network = (processors, [(k, k + 1) for k in range(processors - 1)])
            self.check(core, network, places, [expected_image(core, row) for row in here])

    def test_the_lists_may_change_later(self):
        plan = plan_of(NESTED, ROW, [0, 1, 2, 1])
        first = build_images(NESTED, plan)
        for image in first:
            image.clear()
        first.clear()
        self.assertEqual(build_images(NESTED, plan)[2], [1] + THREAD_2)


class ReadTest(unittest.TestCase):
    def check(self, words, expected):
        before = list(words)
        found = read_image(words)
        self.assertIs(type(found), dict)
        self.assertEqual(frozen(found), frozen(expected))
        self.assertTrue(is_plain(list(found.values())))
        self.assertEqual(words, before)

    def test_the_example(self):
        thread = (None, 1, [0], [0], [("push", 9), ("store", 0), ("end",)])
        self.check([1, 0, 0, 1, 1, 0, 1, 0, 5, 0, 9, 2, 0, 15], {0: thread})

    def test_no_threads(self):
        self.check([0], {})

    def test_what_is_built(self):
        for core in (NESTED, EVERY, ("core", 0, [], NOTHING)):
            many = len(threads(core))
            for places in ([0] * many, [k % 3 for k in range(many)], [2 - k % 3 for k in range(many)], [1] * many):
                images = build_images(core, plan_of(core, ROW, places))
                for p, image in enumerate(images):
                    self.check(image, expected_threads(core, [t for t in range(many) if places[t] == p]))

    def test_parents(self):
        self.check([1, 7, 0, 0, 0, 0, 1, 15], {7: (None, 0, [], [], [("end",)])})
        self.check([1, 7, 1, 0, 0, 0, 1, 15], {7: (0, 0, [], [], [("end",)])})
        self.check([1, 7, 2, 0, 0, 0, 1, 15], {7: (1, 0, [], [], [("end",)])})
        self.check([1, 7, 12, 0, 0, 0, 1, 15], {7: (11, 0, [], [], [("end",)])})

    def test_several_threads(self):
        words = [2] + THREAD_1 + THREAD_3
        self.check(words, {
            1: (0, 2, [0, 1], [1], [("fork", [(2, [])]), ("load", 0), ("store", 1), ("end",)]),
            3: (0, 1, [2], [2], [("take", 1), ("store", 0), ("end",)]),
        })
        self.assertEqual(list(read_image(words)), [1, 3])

    def test_nothing_else_is_checked(self):
        self.check([1, 65535, 65535, 65535, 1, 65535, 0, 0], {65535: (65534, 65535, [65535], [], [])})
        self.check([2, 5, 0, 0, 0, 0, 0, 4, 0, 9, 0, 0, 1, 16], {
            5: (None, 0, [], [], []), 4: (None, 9, [], [], [("stop",)]),
        })
        self.check([1, 0, 0, 0, 2, 9, 1, 2, 3, 9, 2, 9, 44], {0: (None, 0, [9, 1], [3, 9], [("jump", 44)])})

    def test_drawn_cores(self):
        rng = random.Random(102)
        for number in range(60):
            core, _ = draw_core(rng, alts=number % 2 == 1)
            places = [rng.randrange(3) for _ in threads(core)]
            for p, image in enumerate(build_images(core, plan_of(core, ROW, places))):
                self.check(image, expected_threads(core, [t for t, q in enumerate(places) if q == p]))

    def test_the_lists_may_change_later(self):
        words = [1] + THREAD_1
        found = read_image(words)
        words.clear()
        thread = (0, 2, [0, 1], [1], [("fork", [(2, [])]), ("load", 0), ("store", 1), ("end",)])
        self.assertEqual(found, {1: thread})
        again = [1] + THREAD_1
        found = read_image(again)
        found[1][2].clear()
        found[1][4].clear()
        found.clear()
        self.assertEqual(read_image(again), {1: thread})


class RefusedTest(unittest.TestCase):
    def refuses(self, words):
        before = list(words)
        with self.assertRaises(CodeError):
            read_image(words)
        self.assertEqual(words, before)

    def test_it_is_an_error_of_the_program(self):
        self.assertTrue(issubclass(CodeError, PlacedError))
        self.assertRaises(PlacedError, read_image, [])

    def test_words_are_missing_at_each_place(self):
        for core in (NESTED, EVERY):
            image = build_images(core, plan_of(core, (1, []), [0] * len(threads(core))))[0]
            read_image(image)
            for end in range(len(image)):
                self.refuses(image[:end])

    def test_words_are_left(self):
        for image in ([0], [1] + THREAD_2, [4] + THREAD_0 + THREAD_1 + THREAD_2 + THREAD_3):
            read_image(image)
            for behind in ([0], [15], [65535], [0, 0], THREAD_1):
                self.refuses(image + behind)

    def test_another_number_of_threads(self):
        self.refuses([0] + THREAD_2)
        self.refuses([2] + THREAD_2)
        self.refuses([65535] + THREAD_2)
        self.refuses([1] + THREAD_2 + THREAD_3)

    def test_no_words(self):
        self.refuses([])

    def test_numbers_that_are_too_large(self):
        self.refuses([1, 0, 0, 0, 65535, 1, 2])
        self.refuses([1, 0, 0, 0, 0, 65535, 1, 2])
        self.refuses([1, 0, 0, 0, 0, 0, 65535, 15])

    def test_instructions_that_are_refused(self):
        front = [1, 0, 0, 0, 0, 0]
        for words in ([17], [65535], [15, 17], [8, 11], [8, 65535], [17, 0], [0, 5, 8, 12], [16, 18, 16]):
            self.refuses(front + [len(words)] + words)
        # The thread behind is good, and the one in front is too.
        for words in ([17], [8, 11]):
            self.refuses([3] + THREAD_1 + [0, 0, 0, 0, 0, len(words)] + words + THREAD_2)

    def test_instructions_that_are_cut(self):
        # The words that are missing stand behind the instructions, where another thread begins.
        behind = THREAD_2 + THREAD_3
        for words in (
            [0], [1], [2], [3], [3, 1], [4, 2], [5], [8], [9], [10], [11], [12], [13], [13, 1], [13, 1, 2, 3], [14],
            [14, 1], [14, 1, 2], [14, 1, 2, 1], [14, 2, 1, 0], [13, 2, 0, 0, 0, 1], [15, 0], [6, 14, 1, 3, 2, 1],
        ):
            self.refuses([3, 0, 0, 0, 0, 0, len(words)] + words + behind)
        # The row of the "fork" would be complete with the first words of the next thread.
        self.refuses([2, 0, 0, 0, 0, 0, 3, 14, 1, 5, 0, 0, 0, 0, 0, 0, 0])


if __name__ == "__main__":
    unittest.main()
