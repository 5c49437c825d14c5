"""Logs: point 23."""

import inspect
import itertools
import unittest

import reference
from sameticks.errors import BadProgram, NoSuchPlace, TickError, TooMuch
from sameticks.logs import said_how
from sameticks.programs import body_sizes
from sameticks.texts import program_of

PAUSE = ("pause",)
# Body 0 says x, y and z in three ticks, body 1 says p at once, body 2 says q one tick later.
THREE = program_of("say x pause say y pause say z ; say p ; pause say q")


def words(text):
    return tuple(text.split())


class Explained(unittest.TestCase):
    """Which moments are told."""

    def tells(self, program, starts, said, told):
        self.assertEqual(said_how(program, starts, words(said)), told)
        self.assertEqual(reference.said_how(program, starts, words(said)), told)

    def test_one_start(self):
        self.tells(THREE, (0,), "x y z", ("moments", (0,)))
        self.tells(THREE, (0,), "x y", ("moments", (0,)))
        self.tells(THREE, (2,), "q", ("moments", (0,)))
        self.tells(THREE, (0,), "x y z x", ("until", 3))
        self.tells(THREE, (0,), "x z", ("until", 1))
        self.tells(THREE, (0,), "y", ("until", 0))

    def test_two_starts(self):
        self.tells(THREE, (0, 1), "x p y z", ("moments", (0, 0)))
        self.tells(THREE, (0, 1), "x y p z", ("moments", (0, 1)))
        self.tells(THREE, (0, 1), "x y z p", ("moments", (0, 2)))
        self.tells(THREE, (0, 1), "p x y z", ("until", 0))
        self.tells(THREE, (1, 0), "p x y z", ("moments", (0, 0)))

    def test_starts_are_in_their_order_whatever_they_do(self):
        self.tells(THREE, (0, 2), "x y q z", ("moments", (0, 0)))
        self.tells(THREE, (2, 0), "x q y z", ("moments", (0, 0)))
        self.tells(THREE, (0, 2), "x q y z", ("until", 1))

    def test_three_starts(self):
        self.tells(THREE, (0, 1, 1), "x y p p z", ("moments", (0, 1, 1)))
        self.tells(THREE, (0, 1, 1), "x p y z p", ("moments", (0, 0, 2)))
        self.tells(THREE, (0, 0, 0), "x x x y y y z z z", ("moments", (0, 0, 0)))
        self.tells(THREE, (0, 0, 0), "x y z x y z x y z", ("moments", (0, 2, 4)))
        self.tells(THREE, (0, 0, 0), "x y x y z x y z z", ("until", 3))
        self.tells(THREE, (0, 0, 0), "x y x z y x z y y", ("until", 8))

    def test_moments_count_jobs_and_not_ticks(self):
        program = program_of("say x pause say y ; say p")
        self.tells(program, (0, 0, 1), "x x y p y", ("moments", (0, 0, 1)))
        self.tells(program, (0, 0, 1), "x x y y p", ("moments", (0, 0, 2)))
        quiet = program_of("pause pause pause pause say y ; say p")
        self.tells(quiet, (0, 0, 1), "y p y", ("moments", (0, 0, 7)))
        self.tells(quiet, (0, 0, 1), "y y p", ("moments", (0, 0, 8)))

    def test_starts_within_a_tick(self):
        program = program_of("start 1 a pause say y pause say z ; pause ; pause say q")
        told = [spoken for moments, spoken in reference.moments_of(program, (0, 2)) if moments[1] < 3]
        self.assertEqual(told, [words("y q z"), words("y q z"), words("y z q")])
        self.tells(program, (0, 2), "y q z", ("moments", (0, 0)))
        self.tells(program, (0, 2), "y z q", ("moments", (0, 2)))

    def test_the_first_of_several_moments(self):
        quiet = program_of("pause pause pause pause say y ; say p")
        self.tells(quiet, (0, 1), "p y", ("moments", (0, 0)))
        self.tells(quiet, (0, 1, 1), "p", ("moments", (0, 0, 0)))
        self.tells(quiet, (0, 1, 1), "p y p", ("moments", (0, 0, 4)))
        self.tells(quiet, (0, 1, 0), "p y y", ("moments", (0, 0, 0)))
        self.tells(quiet, (0, 0, 1), "y p y", ("moments", (0, 0, 7)))

    def test_what_is_said_may_go_on(self):
        self.tells(THREE, (0, 1), "x", ("moments", (0, 0)))
        self.tells(THREE, (0, 1), "x y", ("moments", (0, 1)))
        self.tells(THREE, (0, 1), "", ("moments", (0, 0)))

    def test_no_starts_and_no_words(self):
        self.tells(THREE, (), "", ("moments", ()))
        self.tells(THREE, (), "x", ("until", 0))
        self.tells(THREE, (0,), "", ("moments", (0,)))
        self.tells(THREE, (0, 0, 0), "", ("moments", (0, 0, 0)))

    def test_words_that_cannot_be_said(self):
        self.tells(THREE, (0, 1), "x y w", ("until", 2))
        self.tells(THREE, (0, 1), "w", ("until", 0))
        self.tells(program_of(""), (0, 0, 0), "x", ("until", 0))

    def test_the_most_words_with_any_moments(self):
        # With the first moments just one word is said so, with later ones more.
        self.tells(THREE, (0, 1), "x y z x", ("until", 3))
        self.tells(THREE, (0, 1), "x y p p", ("until", 3))
        self.tells(THREE, (0, 1), "x p p", ("until", 2))

    def test_tasks_without_jobs(self):
        program = program_of("say x ; say y")
        self.tells(program, (0, 1, 0), "x y x", ("moments", (0, 0, 0)))
        self.tells(program, (1, 1, 0), "y x", ("until", 1))

    def test_tasks_that_start_others(self):
        program = program_of("start 1 a start 2 b wait a say x ; pause say y ; say z pause say w")
        for starts in itertools.product(range(3), repeat=2):
            for moments, spoken in reference.moments_of(program, starts):
                told = said_how(program, starts, spoken)
                self.assertEqual(told[0], "moments")
                self.assertLessEqual(told[1], moments)

    def test_programs_of_all_kinds(self):
        made = reference.Programs(41, 2, (8, 5, 5, 5, 1, 0.2, 0.4, 2, 1))
        for _ in range(400):
            program = made.program(made.random.randint(1, 3), 5)
            starts = tuple(made.random.randrange(len(program)) for _ in range(made.random.choice((1, 2, 2, 3))))
            if max(body_sizes(program)) > 30:
                continue
            spoken = made.random.choice(reference.moments_of(program, starts))[1][:12]
            self.tells(program, starts, " ".join(spoken), said_how(program, starts, spoken))
            changed = tuple(made.random.choice("xyxyz") for _ in range(4))
            at = made.random.randint(0, len(spoken))
            for said in (spoken[:at] + changed, spoken[:at] + spoken[at + 1:], changed):
                said = said[:12]
                self.assertEqual(said_how(program, starts, said), reference.said_how(program, starts, said))


class Greatest(unittest.TestCase):
    """Logs of 12 words with 3 starts of size 30."""

    def test_starts_of_a_size_of_30(self):
        program = ((PAUSE,) * 27 + (("say", "x"),),)
        self.assertEqual(body_sizes(program), (30,))
        self.assertEqual(said_how(program, (0, 0, 0), ("x",) * 3), ("moments", (0, 0, 0)))
        self.assertEqual(said_how(program, (0, 0, 0), ("x",) * 12), ("until", 3))
        silent = ((PAUSE,) * 28,)
        self.assertEqual(said_how(silent, (0, 0, 0), ("x",) * 12), ("until", 0))

    def test_the_last_moments_of_all(self):
        program = ((("say", "x"),) + (PAUSE,) * 26 + (("say", "y"),), (("say", "p"),) + (PAUSE,) * 26 + (("say", "q"),))
        self.assertEqual(said_how(program, (0, 1, 0), words("x y p q x y")), ("moments", (0, 26, 52)))
        self.assertEqual(said_how(program, (0, 1, 0), words("x p y q x y")), ("moments", (0, 0, 52)))
        self.assertEqual(said_how(program, (0, 1, 0), words("x y p q x x")), ("until", 5))

    def test_twelve_words(self):
        says = tuple(("say", word) for word in "abcd")
        program = (says + (PAUSE,) * 24,)
        self.assertEqual(said_how(program, (0, 0, 0), tuple("abcdabcdabcd")), ("moments", (0, 0, 0)))
        self.assertEqual(said_how(program, (0, 0, 0), tuple("abcdabcdabcc")), ("until", 11))
        self.assertEqual(said_how((says * 4,), (0,), tuple("abcdabcdabcd")), ("moments", (0,)))


class Refused(unittest.TestCase):
    """First programs that are none, then bodies that there are not, then what is too much."""

    def refuses(self, error, program, starts, said):
        with self.assertRaises(TickError) as caught:
            said_how(program, starts, said)
        self.assertIs(caught.exception.__class__, error)

    def test_programs_that_are_none(self):
        for program in ((), ((("say", "X"),),), ((("start", 1, "a"),),), ((PAUSE,) * 41,), ((),) * 9):
            self.refuses(BadProgram, program, (), ())
            self.refuses(BadProgram, program, (9,), ("x",) * 13)

    def test_bodies_that_there_are_not(self):
        for starts in ((3,), (-1,), (0, 3), (0, 1, 4), (0, -3, 0), (3, 0)):
            self.refuses(NoSuchPlace, THREE, starts, ("x",))
            self.refuses(NoSuchPlace, THREE, starts, ("x",) * 13)
        self.refuses(NoSuchPlace, THREE, (0, 0, 0, 3), ())
        self.refuses(NoSuchPlace, ((PAUSE,) * 40,), (0, 1), ())

    def test_three_starts_and_four(self):
        self.assertEqual(said_how(THREE, (1, 1, 1), ("p",) * 3), ("moments", (0, 0, 0)))
        self.refuses(TooMuch, THREE, (1, 1, 1, 1), ("p",) * 4)
        self.refuses(TooMuch, THREE, (1, 1, 1, 1), ())

    def test_twelve_words_and_thirteen(self):
        program = ((("say", "x"),) * 13,)
        self.assertEqual(said_how(program, (0,), ("x",) * 12), ("moments", (0,)))
        self.refuses(TooMuch, program, (0,), ("x",) * 13)
        self.refuses(TooMuch, program, (), ("x",) * 13)

    def test_started_bodies_of_sizes_30_and_31(self):
        program = ((PAUSE,) * 28, (PAUSE,) * 29)
        self.assertEqual(body_sizes(program), (30, 31))
        self.assertEqual(said_how(program, (0, 0), ()), ("moments", (0, 0)))
        self.refuses(TooMuch, program, (1,), ())
        self.refuses(TooMuch, program, (0, 0, 1), ("x",))
        started = ((("start", 1, "a"),) * 9, (), (PAUSE,) * 29)
        self.assertEqual(body_sizes(started)[0], 29)
        self.assertEqual(said_how(started, (0, 1, 0), ("x",)), ("until", 0))
        self.refuses(TooMuch, ((("start", 1, "a"),), (PAUSE,) * 27), (0,), ())

    def test_bodies_that_are_not_started_may_be_greater(self):
        program = ((("repeat", 100, (PAUSE,)),), (("say", "x"),))
        self.assertEqual(said_how(program, (1,), ("x",)), ("moments", (0,)))


class Interface(unittest.TestCase):

    def test_the_function_is_defined_here(self):
        self.assertEqual(said_how.__module__, "sameticks.logs")
        self.assertEqual(list(inspect.signature(said_how).parameters), ["program", "starts", "words"])

    def test_kinds_of_values(self):
        told = said_how(program=THREE, starts=(0, 1), words=("x",))
        self.assertEqual(told, ("moments", (0, 0)))
        self.assertIs(told.__class__, tuple)
        self.assertIs(told[1].__class__, tuple)
        self.assertEqual(said_how(THREE, (0, 1), ("x",)), told)


if __name__ == "__main__":
    unittest.main()
