"""Loops: points 8, 9, 10, 21 and 22."""

import inspect
import unittest

import reference
from sameticks.errors import BadProgram, NoSuchPlace, NoSuchTask, TickError, TooManyStarts
from sameticks.loops import Loop
from sameticks.programs import body_sizes
from sameticks.tasks import run_program
from sameticks.texts import program_of

PAUSE = ("pause",)
QUIET = program_of("pause pause ; say x ; start 3 a wait a say y ; pause fail")


def seen(loop):
    """All that a loop tells of itself."""
    outcomes = tuple(loop.outcome(task) for task in range(loop.tasks()))
    return (loop.tick(), loop.jobs(), loop.tasks(), loop.entries(), outcomes)


def expected(program, deeds):
    """All that a loop tells of itself after deeds that were done and not undone."""
    told = reference.loop_after(program, deeds)
    outcomes = tuple(task.outcome for task in told.tasks)
    return (told.tick, len(told.jobs), len(told.tasks), tuple(told.entries), outcomes)


class Loops(unittest.TestCase):

    def refuses(self, error, call, *arguments):
        with self.assertRaises(TickError) as caught:
            call(*arguments)
        self.assertIs(caught.exception.__class__, error)


class Deeds(Loops):
    """Point 21: starts, steps, ticks."""

    def test_a_new_loop(self):
        loop = Loop(QUIET)
        self.assertEqual(seen(loop), (0, 0, 0, (), ()))

    def test_without_jobs(self):
        loop = Loop(QUIET)
        for _ in range(2):
            self.assertIs(loop.step(), False)
            self.assertEqual(loop.step_tick(), 0)
            self.assertEqual(loop.finish(), 0)
            self.assertEqual(seen(loop), (0, 0, 0, (), ()))
        self.assertEqual(loop.start(1), 0)
        self.assertEqual((loop.step(), loop.step_tick(), loop.finish()), (False, 0, 0))
        self.assertEqual(seen(loop), (0, 0, 1, ((0, 0, "x"),), ("returned",)))

    def test_a_start_does_the_statements_at_once(self):
        loop = Loop(QUIET)
        self.assertEqual(loop.start(0), 0)
        self.assertEqual(seen(loop), (0, 1, 1, (), ("running",)))
        self.assertEqual(loop.start(2), 1)
        # The task of body 2 has started one of body 3, so the next number is 3.
        self.assertEqual(loop.start(1), 3)
        self.assertEqual(
            seen(loop), (0, 2, 4, ((0, 3, "x"),), ("running", "running", "running", "returned"))
        )

    def test_steps(self):
        loop = Loop(QUIET)
        loop.start(0)
        loop.start(2)
        told = []
        while loop.step():
            told.append((loop.tick(), loop.jobs()))
        self.assertEqual(told, [(1, 2), (1, 2), (2, 1), (2, 0)])
        self.assertEqual(seen(loop), (2, 0, 3, (), ("returned", "failed", "failed")))
        self.assertIs(loop.step(), False)

    def test_ticks_with_several_jobs(self):
        loop = Loop(program_of("start 1 a start 1 b say x pause say y ; pause say z"))
        loop.start(0)
        loop.start(0)
        self.assertEqual(loop.step_tick(), 6)
        said = ((0, 0, "x"), (0, 3, "x"), (1, 1, "z"), (1, 2, "z"), (1, 0, "y"), (1, 4, "z"), (1, 5, "z"), (1, 3, "y"))
        self.assertEqual(seen(loop), (1, 0, 6, said, ("returned",) * 6))
        self.assertEqual(loop.step_tick(), 0)

    def test_a_tick_of_which_some_jobs_are_done(self):
        loop = Loop(program_of("say x pause say y pause say z"))
        for _ in range(3):
            loop.start(0)
        self.assertIs(loop.step(), True)
        # What is started now belongs to tick 1, so it goes on behind the rest of it and behind task 0.
        loop.start(0)
        self.assertEqual(loop.entries()[3:], ((1, 0, "y"), (1, 3, "x")))
        self.assertEqual(loop.step_tick(), 2)
        self.assertEqual(loop.tick(), 1)
        self.assertEqual(loop.step_tick(), 4)
        self.assertEqual(
            loop.entries()[5:],
            ((1, 1, "y"), (1, 2, "y"), (2, 0, "z"), (2, 3, "y"), (2, 1, "z"), (2, 2, "z")),
        )
        self.assertEqual((loop.step_tick(), loop.step_tick(), loop.tick()), (1, 0, 3))

    def test_to_finish(self):
        loop = Loop(program_of("repeat 5 { pause } say x"))
        loop.start(0)
        loop.step()
        loop.start(0)
        self.assertEqual(loop.finish(), 9)
        self.assertEqual(seen(loop), (6, 0, 2, ((5, 0, "x"), (6, 1, "x")), ("returned", "returned")))
        self.assertEqual(loop.finish(), 0)

    def test_a_loop_goes_on_after_all_jobs_are_done(self):
        loop = Loop(program_of("pause say x"))
        for tick in range(3):
            loop.start(0)
            loop.finish()
        self.assertEqual(loop.entries(), ((1, 0, "x"), (2, 1, "x"), (3, 2, "x")))

    def test_one_start_of_body_0_is_the_run_of_the_program(self):
        made = reference.Programs(31)
        for _ in range(300):
            program = made.program(made.random.randint(1, 4), 7)
            loop = Loop(program)
            loop.start(0)
            loop.finish()
            told = seen(loop)
            self.assertEqual((told[3], told[4], told[0]), run_program(program))

    def test_adopted_and_followed_tasks(self):
        loop = Loop(program_of("start 1 a adopt a ; start 2 a wait a ; pause pause fail"))
        loop.start(0)
        outcomes = []
        while loop.step():
            outcomes.append(seen(loop)[4])
        running, failed = "running", "failed"
        self.assertEqual(outcomes[1:], [
            (running, running, running), (running, running, failed), (running, failed, failed), (failed,) * 3,
        ])

    def test_several_followers_of_different_tasks(self):
        loop = Loop(program_of("start 1 a wait a say x ; pause"))
        for _ in range(4):
            loop.start(0)
        self.assertEqual([loop.step_tick(), loop.step_tick(), loop.step_tick()], [4, 4, 0])
        self.assertEqual([task for _, task, _ in loop.entries()], [0, 2, 4, 6])


class Refused(Loops):

    def test_programs_that_are_none(self):
        for program in (
            (), ((("say", "X"),),), ((("start", 0, "a"),),), ((PAUSE,) * 41,), ((),) * 9,
            ((("repeat", 100, (("repeat", 100, ()),)),),),
        ):
            self.refuses(BadProgram, Loop, program)

    def test_bodies_that_there_are_not(self):
        loop = Loop(QUIET)
        for body in (4, 5, 100, -1, -4):
            self.refuses(NoSuchPlace, loop.start, body)
        self.assertEqual(seen(loop), (0, 0, 0, (), ()))
        self.assertIs(loop.undo(), False)

    def test_twenty_starts_and_the_one_behind_them(self):
        loop = Loop(QUIET)
        for number in range(20):
            self.assertEqual(loop.start(1), number)
            loop.step()
        before = seen(loop)
        self.refuses(TooManyStarts, loop.start, 1)
        self.refuses(TooManyStarts, loop.start, 0)
        self.assertEqual(seen(loop), before)

    def test_only_starts_from_outside_count(self):
        loop = Loop(program_of("start 1 a start 1 a start 1 a start 1 a ; pause"))
        for number in range(20):
            self.assertEqual(loop.start(0), 5 * number)
        self.refuses(TooManyStarts, loop.start, 0)
        self.assertEqual((loop.tasks(), loop.jobs()), (100, 80))

    def test_no_such_body_behind_twenty_starts(self):
        loop = Loop(QUIET)
        for _ in range(20):
            loop.start(1)
        for body in (4, -1):
            self.refuses(NoSuchPlace, loop.start, body)

    def test_the_one_behind_an_undone_start(self):
        loop = Loop(program_of("pause"))
        for _ in range(20):
            loop.start(0)
        loop.step()
        loop.undo()
        self.refuses(TooManyStarts, loop.start, 0)
        loop.undo()
        self.assertEqual(loop.start(0), 19)
        self.refuses(TooManyStarts, loop.start, 0)
        for _ in range(5):
            loop.undo()
        self.assertEqual([loop.start(0) for _ in range(5)], [15, 16, 17, 18, 19])
        self.refuses(TooManyStarts, loop.start, 0)

    def test_refused_starts_are_no_deeds(self):
        loop = Loop(QUIET)
        loop.start(0)
        self.refuses(NoSuchPlace, loop.start, 9)
        loop.undo()
        self.assertEqual(seen(loop), (0, 0, 0, (), ()))

    def test_tasks_that_there_are_not(self):
        loop = Loop(QUIET)
        for task in (0, 1, -1):
            self.refuses(NoSuchTask, loop.outcome, task)
        loop.start(2)
        self.assertEqual((loop.outcome(0), loop.outcome(1)), ("running", "running"))
        for task in (2, 3, -1, -2):
            self.refuses(NoSuchTask, loop.outcome, task)
        loop.undo()
        self.refuses(NoSuchTask, loop.outcome, 0)


class Undone(Loops):
    """Point 22: undo."""

    def test_without_deeds(self):
        loop = Loop(QUIET)
        self.assertIs(loop.undo(), False)
        loop.step()
        loop.step_tick()
        loop.finish()
        self.assertIs(loop.undo(), False)

    def test_each_deed_is_taken_back_as_a_whole(self):
        loop = Loop(program_of("start 1 a say x pause wait a say y ; pause say z pause"))
        told = [seen(loop)]
        for deed in (
            lambda: loop.start(0), loop.step_tick, lambda: loop.start(1), loop.step, lambda: loop.start(0), loop.finish,
            lambda: loop.start(1), loop.finish,
        ):
            deed()
            told.append(seen(loop))
        self.assertEqual(len(set(told)), len(told))
        for before in reversed(told[:-1]):
            self.assertIs(loop.undo(), True)
            self.assertEqual(seen(loop), before)
        self.assertIs(loop.undo(), False)
        self.assertEqual(seen(loop), told[0])

    def test_deeds_that_did_nothing_are_not_taken_back(self):
        loop = Loop(QUIET)
        loop.start(1)
        for _ in range(3):
            loop.step()
            loop.step_tick()
            loop.finish()
        self.assertIs(loop.undo(), True)
        self.assertEqual(seen(loop), (0, 0, 0, (), ()))
        self.assertIs(loop.undo(), False)

    def test_a_loop_goes_on_after_undone_deeds(self):
        loop = Loop(QUIET)
        loop.start(2)
        loop.step()
        loop.undo()
        loop.start(1)
        loop.finish()
        self.assertEqual(loop.entries(), ((0, 2, "x"),))
        self.assertEqual(seen(loop)[4], ("failed", "failed", "returned"))

    def test_tasks_follow_others_once_again(self):
        # Each wait is done, undone and done again before what it waits for is settled.
        loop = Loop(program_of("start 1 a pause wait a say x wait a say y ; pause pause pause say z"))
        loop.start(0)
        for _ in range(5):
            for _ in range(4):
                loop.step()
            for _ in range(3):
                loop.undo()
        loop.finish()
        self.assertEqual([word for _, _, word in loop.entries()], ["z", "x", "y"])
        self.assertEqual(loop.tick(), 5)

    def test_a_start_within_a_job(self):
        loop = Loop(program_of("pause start 1 a start 1 b wait a start 1 c ; say x pause"))
        loop.start(0)
        loop.step()
        self.assertEqual((loop.tasks(), loop.jobs()), (3, 2))
        loop.undo()
        self.assertEqual((loop.tasks(), loop.jobs(), loop.entries()), (1, 1, ()))
        self.assertEqual(loop.finish(), 5)
        self.assertEqual(loop.tasks(), 4)
        loop.undo()
        loop.finish()
        self.assertEqual([task for _, task, _ in loop.entries()], [1, 2, 3])

    def test_undoing_step_by_step_to_the_beginning(self):
        loop = Loop(program_of("repeat 99 { say x pause pause }"))
        told = []
        for _ in range(20):
            told.append(seen(loop))
            loop.start(0)
            for _ in range(15):
                told.append(seen(loop))
                loop.step()
        while loop.step():
            pass
        self.assertEqual(len(loop.entries()), 99 * 20)
        for _ in range(198 * 20 - 15 * 20):
            self.assertIs(loop.undo(), True)
        for before in reversed(told):
            self.assertIs(loop.undo(), True)
            self.assertEqual(seen(loop), before)
        self.assertIs(loop.undo(), False)

    def test_many_tasks_are_finished_and_undone(self):
        program = program_of("repeat 85 { start 1 a wait a } ; pause")
        loop = Loop(program)
        for _ in range(20):
            loop.start(0)
        before = seen(loop)
        for _ in range(3):
            self.assertEqual(loop.finish(), 20 * 85 * 2)
            loop.undo()
            self.assertEqual(seen(loop), before)


class Forked(Loops):
    """Point 22: forks."""

    def test_a_fork_has_all_that_its_original_has(self):
        loop = Loop(QUIET)
        loop.start(2)
        loop.step()
        fork = loop.fork()
        self.assertIs(fork.__class__, Loop)
        self.assertEqual(seen(fork), seen(loop))
        self.assertIs(fork.undo(), True)
        self.assertIs(fork.undo(), True)
        self.assertIs(fork.undo(), False)
        self.assertEqual(seen(fork), (0, 0, 0, (), ()))

    def test_deeds_on_both_sides_in_turn(self):
        program = program_of("start 1 a say x pause wait a say y ; pause pause say z")
        loop = Loop(program)
        loop.start(0)
        loop.step()
        fork = loop.fork()
        deeds, fork_deeds = [("start", 0), ("jobs", 1)], [("start", 0), ("jobs", 1)]
        for body in (0, 1, 1, 0):
            loop.start(body)
            deeds.append(("start", body))
            self.assertEqual(seen(fork), expected(program, fork_deeds))
            if fork.step():
                fork_deeds.append(("jobs", 1))
            self.assertEqual(seen(loop), expected(program, deeds))
            self.assertEqual(seen(fork), expected(program, fork_deeds))
        fork.finish()
        self.assertEqual(seen(loop), expected(program, deeds))
        loop.undo()
        loop.step_tick()
        self.assertEqual(fork.jobs(), 0)
        while fork.undo():
            pass
        self.assertEqual(seen(fork), (0, 0, 0, (), ()))
        self.assertNotEqual(seen(loop), seen(fork))

    def test_the_starts_of_a_fork_count_for_it_alone(self):
        loop = Loop(QUIET)
        for _ in range(19):
            loop.start(1)
        fork = loop.fork()
        self.assertEqual(fork.start(1), 19)
        self.refuses(TooManyStarts, fork.start, 1)
        self.assertEqual(loop.start(0), 19)
        self.refuses(TooManyStarts, loop.start, 1)
        self.assertEqual(fork.outcome(19), "returned")
        self.assertEqual(loop.outcome(19), "running")

    def test_followers_in_forks(self):
        loop = Loop(program_of("start 1 a pause wait a say x ; pause pause say z"))
        loop.start(0)
        fork = loop.fork()
        for _ in range(3):
            fork.step()
        fork.fork().finish()
        loop.finish()
        fork.finish()
        self.assertEqual(seen(loop), seen(fork))
        self.assertEqual([word for _, _, word in loop.entries()], ["z", "x"])


class Compared(Loops):
    """Many deeds in loops of many programs, compared with runs in which they are done anew."""

    def test_deeds_of_all_kinds(self):
        for seed in range(600):
            made = reference.Programs(seed, 2, (4, 8, 8, 8, 2, 0.2, 0.4, 2, 1))
            program = made.program(made.random.randint(1, 4), 8)
            if max(body_sizes(program)) <= 600:
                self.plays(program, made.random)

    def plays(self, program, random):
        loops = [(Loop(program), [])]
        for _ in range(40):
            loop, deeds = random.choice(loops)
            kind = random.choice(("start", "start", "step", "step", "step", "tick", "finish", "undo", "undo", "fork"))
            if kind == "fork":
                if len(loops) < 4:
                    loops.append((loop.fork(), list(deeds)))
            elif kind == "undo":
                self.assertIs(loop.undo(), len(deeds) > 0)
                del deeds[-1:]
            elif kind == "start":
                self.starts(loop, deeds, program, random.randrange(len(program)))
            else:
                self.does_jobs(loop, deeds, program, kind)
            for other, done in loops:
                self.assertEqual(seen(other), expected(program, done))

    def starts(self, loop, deeds, program, body):
        tasks = expected(program, deeds)[2]
        if sum(kind == "start" for kind, _ in deeds) == 20:
            self.refuses(TooManyStarts, loop.start, body)
        else:
            self.assertEqual(loop.start(body), tasks)
            deeds.append(("start", body))

    def does_jobs(self, loop, deeds, program, kind):
        told = reference.loop_after(program, deeds)
        if kind == "step":
            many = min(1, len(told.jobs))
            self.assertIs(loop.step(), many == 1)
        elif kind == "tick":
            many = sum(tick == told.jobs[0][0] for tick, _ in told.jobs)
            self.assertEqual(loop.step_tick(), many)
        else:
            many = 0
            while told.jobs:
                told.step()
                many += 1
            self.assertEqual(loop.finish(), many)
        if many > 0:
            deeds.append(("jobs", many))


class Interface(unittest.TestCase):

    METHODS = {
        "tick": [], "jobs": [], "tasks": [], "entries": [], "outcome": ["task"], "start": ["body"], "step": [],
        "step_tick": [], "finish": [], "undo": [], "fork": [],
    }

    def test_the_class_and_its_methods_are_defined_here(self):
        self.assertEqual(Loop.__module__, "sameticks.loops")
        self.assertEqual(list(inspect.signature(Loop).parameters), ["program"])
        for name, arguments in self.METHODS.items():
            method = vars(Loop)[name]
            self.assertEqual(method.__module__, "sameticks.loops")
            self.assertEqual(list(inspect.signature(method).parameters), ["self"] + arguments)

    def test_arguments_can_be_named(self):
        loop = Loop(program=QUIET)
        self.assertEqual(loop.start(body=1), 0)
        self.assertEqual(loop.outcome(task=0), "returned")

    def test_kinds_of_values(self):
        loop = Loop(QUIET)
        loop.start(2)
        loop.start(1)
        for value in (loop.start(0), loop.tick(), loop.jobs(), loop.tasks(), loop.step_tick(), loop.finish()):
            self.assertIs(value.__class__, int)
        for value in (loop.entries(), loop.entries()[0]):
            self.assertIs(value.__class__, tuple)

    def test_what_was_told_is_not_changed_later(self):
        loop = Loop(QUIET)
        loop.start(1)
        told = loop.entries()
        loop.start(1)
        self.assertEqual(told, ((0, 0, "x"),))


if __name__ == "__main__":
    unittest.main()
