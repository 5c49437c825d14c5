"""Frames: points 19 and 20."""

import inspect
import itertools
import time
import unittest

import reference
from sameticks import frames
from sameticks.errors import BadContext, BadFrame, TickError
from sameticks.fillings import AHEAD, UP_TO_SETTLED, Filling, chances, heard
from sameticks.frames import alike_frames
from sameticks.profiles import profile_of, standard_program
from sameticks.programs import check_frame, check_program
from sameticks.texts import program_of

ALIKE = ("alike",)
PAUSE = ("pause",)
HOLE = ("start", 1, "a")


def frame_of(text):
    """The frame of a text in which the hole is the body behind the last one."""
    return program_of(text + " ; ")[:-1]


class Compared(unittest.TestCase):

    def tells(self, one, other):
        """What is told, the other way round too."""
        told, back = alike_frames(one, other), alike_frames(other, one)
        self.assertIs(told.__class__, tuple)
        self.assertEqual(told[0], back[0])
        for answer in (told, back):
            if answer != ALIKE:
                self.are_told_apart(one, other, answer)
        return told

    def are_told_apart(self, one, other, answer):
        """The program that is told makes the frames differ."""
        word, program = answer
        self.assertEqual(word, "unlike")
        self.assertIsNone(check_program(program))
        self.assertLessEqual(len(program), 3)
        results = [reference.put(frame, program) for frame in (one, other)]
        self.assertNotEqual(reference.profile(results[0]), reference.profile(results[1]))

    def are_alike(self, one, other, programs=()):
        """The frames are told to be alike, and they are with these programs."""
        one, other = frame_of(one), frame_of(other)
        self.assertEqual(self.tells(one, other), ALIKE)
        for program in programs or MANY_PROGRAMS:
            self.assertEqual(
                profile_of(reference.put(one, program)), profile_of(reference.put(other, program)), program
            )

    def are_unlike(self, one, other):
        """The frames are told apart; returns the program."""
        return self.tells(frame_of(one), frame_of(other))[1]


def many_programs():
    """Programs of all kinds, and simple ones that are settled in several ticks."""
    made = reference.Programs(5, 2)
    found = [made.program(made.random.randint(1, 4), 7) for _ in range(60)]
    for settled in (0, 1, 2, 3, 5, 8, 17):
        found += reference.simple_programs(settled, settled + 6)
    for settled in (0, 1, 4):
        ticks = tuple((f"p{tick}", f"q{tick}") for tick in range(settled + 9))
        before = (1 if settled > 1 else 2,) * 8
        found += [standard_program((ticks, settled, returned, before)) for returned in (True, False)]
    return found


MANY_PROGRAMS = many_programs()


class Alike(Compared):
    """Frames that are alike with all programs."""

    def test_the_example(self):
        frame = program_of("start 1 a wait a ; ")[:1]
        self.assertEqual(alike_frames(frame, frame), ("alike",))

    def test_frames_that_are_the_same(self):
        for text in (
            "start 1 a", "start 1 a wait a", "start 1 a adopt a", "try { start 1 a wait a } catch { say x }",
            "start 2 b start 1 a wait b wait a ; pause say x pause say y",
        ):
            self.are_alike(text, text)

    def test_other_variables(self):
        self.are_alike("start 1 a wait a say x", "start 1 d wait d say x")

    def test_to_wait_for_what_is_settled_is_to_pause(self):
        self.are_alike("start 1 a wait a wait a say x", "start 1 a wait a pause say x")
        self.are_alike("start 1 a wait b wait a", "start 1 a pause wait a")

    def test_to_adopt_is_to_pause_and_to_wait_behind_all_handlers(self):
        self.are_alike("start 1 a adopt a", "start 1 a pause wait a")
        self.are_alike("try { start 1 a adopt a } catch { say x }", "start 1 a pause wait a")

    def test_what_is_never_done(self):
        self.are_alike("start 1 a return wait a say x", "start 1 a")
        self.are_alike("start 1 a wait a fail", "start 1 a try { wait a fail } catch { fail } say x")
        self.are_alike("start 2 a ; pause pause", "start 1 a")

    def test_repeats_and_blocks_written_out(self):
        self.are_alike("start 1 a repeat 3 { wait a say x }", "start 1 a wait a say x wait a say x wait a say x")
        self.are_alike("try { start 1 a } catch { say x } wait a", "start 1 a wait a")

    def test_bodies_in_another_order(self):
        self.are_alike(
            "start 1 b start 2 c start 3 a wait b wait a ; pause say x ; pause say y",
            "start 2 b start 1 c start 3 a wait b wait a ; pause say y ; pause say x",
        )
        self.are_alike("start 4 a wait a ; say x ; ; fail", "start 1 a wait a")

    def test_pauses_told_in_other_ways(self):
        self.are_alike("start 1 a pause pause say x", "start 1 a wait b repeat 1 { pause } say x")
        self.are_alike("start 1 a pause pause say x", "start 2 a start 1 b wait b pause say x ;")

    def test_the_hole_is_never_started(self):
        self.are_alike("return start 1 a wait a", "return start 1 a adopt a say x")
        self.are_alike("try { say x } catch { start 1 a wait a } pause", "say x pause return start 1 b")
        self.are_alike("fail start 1 a", "try { fail } catch { fail } start 1 a")

    def test_the_hole_in_a_try_and_in_a_handler(self):
        self.are_alike("try { start 1 a wait a fail } catch { pause }", "start 1 a try { wait a } catch { } pause")
        self.are_alike("try { fail } catch { start 1 a wait a }", "start 1 a wait a")
        self.are_alike("try { try { fail } catch { start 1 b } } catch { } wait b", "start 1 a wait a")


class Unlike(Compared):
    """Frames that some program tells apart."""

    def test_settled_in_another_tick(self):
        self.are_unlike("start 1 a wait a", "start 1 a adopt a")
        self.are_unlike("start 1 a wait a", "start 1 a")
        self.are_unlike("start 1 a wait a", "start 1 a wait a pause")

    def test_the_hole_started_in_another_tick_or_never(self):
        self.assertIn(("say", "0"), self.are_unlike("start 1 a pause", "pause start 1 a")[0])
        self.are_unlike("return start 1 a", "start 1 a")
        self.are_unlike("try { } catch { start 1 a }", "try { start 1 a } catch { }")

    def test_only_with_a_program_that_fails(self):
        for one, other in (
            ("start 1 a wait a", "start 1 a try { wait a } catch { }"),
            ("start 1 a adopt a", "start 1 a pause try { wait a } catch { return }"),
            ("try { start 1 a wait a } catch { say x }", "try { start 1 a wait a } catch { say y }"),
            ("start 1 a try { wait a } catch { } pause", "start 1 a try { wait a pause } catch { }"),
        ):
            self.assertIn(("fail",), self.are_unlike(one, other)[0])

    def test_only_with_a_program_that_returns(self):
        program = self.are_unlike("start 1 a wait a say x fail", "start 1 a wait a fail")
        self.assertNotIn(("fail",), program[0])

    def test_words_of_the_program_among_those_of_the_frame(self):
        self.are_unlike("start 1 a say x", "say x start 1 a")
        self.are_unlike(
            "start 2 a start 1 b ; pause pause pause say x", "start 1 b start 2 a ; pause pause pause say x"
        )

    def test_words_of_the_frame_that_new_words_might_be(self):
        for word in ("0", "1", "00", "x"):
            self.are_unlike(f"start 1 a say {word}", f"say {word} start 1 a")

    def test_words_behind_settled_ahead_of_the_place_or_behind_it(self):
        program = self.are_unlike(
            "start 2 a start 1 b wait a wait b ; pause pause pause pause",
            "start 1 b start 2 a wait a wait b ; pause pause pause pause",
        )
        self.assertGreater(len(program), 1)

    def test_only_with_programs_that_are_settled_late(self):
        waiting = "try { wait a } catch { }"
        for count in range(13):
            pauses = "pause " * count
            program = self.are_unlike(f"start 1 a {pauses} {waiting}", f"start 1 a {pauses} pause")
            self.assertEqual(reference.profile(program)[1], count + 1)
        frame = "start 2 a start 1 b wait b {} ; pause pause pause pause"
        program = self.are_unlike(frame.format(waiting), frame.format("pause"))
        self.assertEqual(reference.profile(program)[1], 6)

    def test_words_that_one_frame_says_long_after_the_other_one_is_at_rest(self):
        late = "pause " * 10 + "say x"
        for first in ("start {} a", "start {} a wait a", "start {} a adopt a"):
            self.are_unlike(first.format(1), f"start 1 b {first.format(2)} ; {late}")

    def test_each_program_that_might_be_told(self):
        # What is told is chosen among these, so each has to be what it is meant to be.
        for settled, returned in itertools.product((0, 1, 2, 3, 7), (True, False)):
            end = ("return",) if returned else ("fail",)
            silent = frames._program_saying(("say", "x"), None, settled, end)
            self.assertEqual(reference.profile(silent), ((), settled, returned, ()))
            for tick, side in chances(settled, settled + 42):
                program = frames._program_saying(("say", "x"), (tick, side), settled, end)
                before = () if side == UP_TO_SETTLED else (0,) * (tick - settled - 1) + (
                    (1,) if side == AHEAD else (0,)
                )
                ticks = ((),) * tick + (("x",),)
                self.assertEqual(reference.profile(program), (ticks, settled, returned, before))


class Sizes(Compared):
    """The greatest frames."""

    def test_frames_of_four_bodies(self):
        text = "start 1 a start 4 b wait a wait b ; start 2 a adopt a ; start 3 a wait a ; pause say x"
        self.are_alike(text, text.replace("start 2 a adopt a", "start 2 a pause wait a"))
        self.are_unlike(text, text.replace("wait a wait b ;", "wait b wait a ;"))

    def test_frames_of_a_size_of_20(self):
        pauses = (PAUSE,) * 15
        for first, second in itertools.product((("wait", "a"), PAUSE, ("adopt", "a")), repeat=2):
            one, other = ((HOLE, *pauses, first, PAUSE),), ((HOLE, *pauses, second, ("wait", "b")),)
            self.assertEqual(reference.put(one, ())[0], one[0])
            self.assertIsNone(check_frame(one))
            with self.assertRaises(BadFrame):
                check_frame(((*one[0], PAUSE),))
            self.assertEqual(self.tells(one, other) == ALIKE, first == second)

    def test_tasks_that_adopt_tasks_that_adopt_tasks(self):
        text = "start 4 a start 1 b wait {} wait {} ; start 2 a adopt a ; start 3 a adopt a ; pause pause"
        self.are_alike(text.format("b", "a"), text.format("b", "a"))
        self.are_unlike(text.format("b", "a"), text.format("a", "b"))

    def test_frames_with_many_words(self):
        says = " ".join(f"say w{number}" for number in range(8))
        self.are_alike(f"start 1 a {says} wait a {says}", f"start 1 b {says} wait b {says}")
        self.are_unlike(f"start 1 a {says} wait a {says}", f"{says} start 1 a wait a {says}")


class ManyFrames(Compared):
    """Frames of all kinds."""

    def test_alike_exactly_if_no_program_tells_them_apart(self):
        for statements, many, seed in ((3, 50, 1), (5, 40, 2), (9, 20, 3)):
            made = reference.Programs(seed, 1, (3, 6, 6, 7, 2, 0.3, 0.7, 2, 1))
            groups = {}
            for _ in range(many):
                frame = random_frame(made, statements)
                results = [reference.put(frame, program) for program in FEWER_PROGRAMS]
                groups.setdefault(tuple(map(reference.profile, results)), []).append(frame)
            self.assertGreater(len(groups), 8)
            for group in groups.values():
                for frame in group:
                    self.assertEqual(alike_frames(group[0], frame), ALIKE)
            ordered = [group for _, group in sorted(groups.items())]
            for one, other in [*zip(ordered, ordered[1:]), *zip(ordered, ordered[2:])]:
                self.are_told_apart(one[0], other[-1], alike_frames(one[0], other[-1]))


class Logs(unittest.TestCase):
    """What the logs tell of a frame is what the programs do in it."""

    def test_the_log_with_one_word_is_that_of_the_program(self):
        made = reference.Programs(4, 1, (3, 6, 6, 7, 2, 0.3, 0.7, 2, 1))
        some = [random_frame(made, 6) for _ in range(25)]
        some += [frame_of("start 2 a start 1 b wait a wait b say y ; pause pause say x pause say x")]
        for frame, end in itertools.product(some, frames.ENDS):
            filling = Filling(frame, end)
            for settled in (0, 1, 2, 5):
                last = settled + filling.rest() + 1
                log = filling.log(settled, last)
                self.assertLessEqual(max(tick for tick, _ in log), last)
                spoken = [(tick, word) for tick, word in log if not isinstance(word, str)]
                if spoken:
                    started = spoken[0][0]
                    self.assertEqual([word for _, word in spoken], chances(settled, last - started))
                for chance in (None, *(word for _, word in spoken)):
                    program = frames._program_saying(("say", "q"), chance, settled, end)
                    profile = reference.profile(reference.put(frame, program))
                    self.assertEqual(self.profile_in(heard(log, chance)), profile, (frame, chance))

    def profile_in(self, log):
        """The profile that can be read in a log with one word of the program, "q", at most."""
        words = [(tick, word if isinstance(word, str) else "q") for tick, word in log]
        marks = [(tick, word) for tick, word in words if word.startswith("*")]
        settled = marks[0][0] - 1
        self.assertEqual([tick for tick, _ in marks], [*range(settled + 1, words[-1][0] + 1)])
        count = max((tick + 1 for tick, word in words if not word.startswith("*")), default=0)
        ticks = [[word for at, word in words if at == tick] for tick in range(count)]
        before = tuple(ticks[tick].index(marks[0][1]) for tick in range(settled + 1, count))
        told = tuple(tuple(word for word in here if not word.startswith("*")) for here in ticks)
        return (told, settled, marks[0][1] == "*returned", before)


class Time(Compared):
    """Answers come soon."""

    def takes_less(self, milliseconds, pairs):
        """A call with one of these pairs takes less than this in the mean, in the best of some tries."""
        tries = []
        for _ in range(5):
            begin = time.process_time()
            for one, other in pairs:
                alike_frames(one, other)
            tries.append((time.process_time() - begin) * 1000 / len(pairs))
        self.assertLess(min(tries), milliseconds)

    def test_two_children_of_which_one_is_awaited(self):
        frame = (
            (("start", 1, "b"), ("start", 2, "a"), ("start", 1, "c"), ("wait", "a"), ("wait", "b")),
            (("say", "x"), ("pause",), ("pause",), ("say", "y")),
        )
        self.assertEqual(self.tells(frame, frame), ALIKE)
        self.takes_less(5, [(frame, frame)])

    def test_to_fail_in_a_handler_as_without_it(self):
        one = ((("start", 1, "a"), ("wait", "a")),)
        other = ((("start", 1, "a"), ("try", (("wait", "a"),), (("fail",),))),)
        self.assertEqual(self.tells(one, other), ALIKE)
        self.takes_less(5, [(one, other), (other, one), (one, one), (other, other)])

    def test_many_small_frames(self):
        made = reference.Programs(6, 1, (3, 6, 6, 7, 2, 0.3, 0.7, 2, 1))
        some = [random_frame(made, 6) for _ in range(60)]
        self.takes_less(5, [*zip(some, some), *zip(some, some[1:])])


def random_frame(made, statements):
    while True:
        bodies = made.program(made.random.randint(1, 3), statements)
        place = made.random.choice(reference.hole_places(bodies[0]))
        frame = reference.frame_of(bodies, made.random.choice("ab"), place)
        try:
            check_frame(frame)
        except BadFrame:
            continue
        return frame


FEWER_PROGRAMS = [
    program for settled in (0, 1, 2, 6) for program in reference.simple_programs(settled, settled + 4)
] + [reference.Programs(seed, 2).program(3, 6) for seed in range(10)]


class Refused(unittest.TestCase):
    """Points 7 and 19: first for the first one, then for the other."""

    GOOD = ((HOLE, ("wait", "a")),)

    def refuses(self, one, other, error):
        with self.assertRaises(TickError) as caught:
            alike_frames(one, other)
        self.assertIs(caught.exception.__class__, error)

    def test_what_is_no_frame(self):
        for frame in (
            ((PAUSE,),),
            ((HOLE, HOLE),),
            ((("start", 1, "a"),), (("start", 2, "a"),)),
            ((("repeat", 1, (HOLE,)),),),
            ((("try", (("repeat", 2, (HOLE,)),), ()),),),
            ((("try", (HOLE,), (HOLE,)),),),
            ((HOLE,) + (PAUSE,) * 18,),
            ((("start", 5, "a"),), (), (), (), ()),
            ((("start", 2, "a"),), (PAUSE,) * 19),
        ):
            self.refuses(frame, self.GOOD, BadFrame)
            self.refuses(self.GOOD, frame, BadFrame)
            self.refuses(frame, frame, BadFrame)

    def test_what_is_just_a_frame(self):
        for frame in (
            ((HOLE,) + (PAUSE,) * 17,),
            ((("start", 4, "a"),), (), (), ()),
            ((("start", 2, "a"),), (PAUSE,) * 18),
            ((("try", (("try", (HOLE,), ()),), ()),),),
            ((("try", (), (("try", (), (HOLE,)),)),),),
        ):
            self.assertEqual(alike_frames(frame, frame), ALIKE)

    def test_what_is_no_context(self):
        deep = ("pause",)
        for _ in range(100):
            deep = ("try", (deep,), ())
        for context in (
            (), ((("start", 2, "a"),),), ((HOLE, ("say", "X")),), ((HOLE, ("wait", "e")),), ((HOLE, deep),),
            ((HOLE,) + (PAUSE,) * 40,), ((HOLE,),) + ((),) * 7, ((("repeat", 101, ()), HOLE),),
        ):
            self.refuses(context, self.GOOD, BadContext)
            self.refuses(self.GOOD, context, BadContext)

    def test_what_is_wrong_in_two_ways(self):
        no_frame, no_context = ((PAUSE,),), ((("say", "X"),),)
        self.refuses(no_frame, no_context, BadFrame)
        self.refuses(no_context, no_frame, BadContext)
        # Neither a context nor of a frame's size, and with the hole started twice.
        self.refuses(((HOLE, HOLE, ("wait", "e")) + (PAUSE,) * 20,), self.GOOD, BadContext)
        self.refuses(self.GOOD, ((("start", 5, "a"), ("wait", "e")), (), (), (), ()), BadContext)


class Interface(unittest.TestCase):

    def test_the_function_is_defined_here(self):
        self.assertEqual(alike_frames.__module__, "sameticks.frames")
        self.assertEqual(list(inspect.signature(alike_frames).parameters), ["one", "other"])

    def test_kinds_of_values(self):
        one, other = frame_of("start 1 a"), frame_of("start 1 a wait a")
        self.assertEqual(alike_frames(one=one, other=one), ("alike",))
        told = alike_frames(one=one, other=other)
        for part in (told, told[1], told[1][0], told[1][0][0]):
            self.assertIs(part.__class__, tuple)
        self.assertEqual(alike_frames(one, other), told)


if __name__ == "__main__":
    unittest.main()
