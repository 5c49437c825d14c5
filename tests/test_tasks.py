"""Runs: points 8, 9 and 10."""

import inspect
import unittest

import reference
from sameticks import tasks
from sameticks.programs import check_program
from sameticks.tasks import run_program
from sameticks.texts import program_of

PAUSE = ("pause",)
RETURNED = "returned"
FAILED = "failed"


def run(text):
    return run_program(program_of(text))


class Runs(unittest.TestCase):

    def says(self, text, *entries):
        """The run of the text says just these entries."""
        self.assertEqual(run(text)[0], entries)

    def ends(self, text, *outcomes):
        self.assertEqual(run(text)[1], outcomes)

    def lasts(self, text, last):
        self.assertEqual(run(text)[2], last)


class Statements(Runs):
    """Point 8, but for failing."""

    def test_the_example_of_the_interface(self):
        self.assertEqual(run("start 1 a wait a ; say x"), (((0, 1, "x"),), (RETURNED, RETURNED), 1))
        self.assertEqual(run("start 1 a adopt a ; say x"), (((0, 1, "x"),), (RETURNED, RETURNED), 2))

    def test_the_program_of_one_empty_body(self):
        self.assertEqual(run_program(((),)), ((), (RETURNED,), 0))

    def test_bodies_that_nothing_starts_are_not_executed(self):
        self.assertEqual(run("say x ; say y ; fail"), (((0, 0, "x"),), (RETURNED,), 0))

    def test_say_tells_tick_and_task(self):
        self.says("say a say b pause say c", (0, 0, "a"), (0, 0, "b"), (1, 0, "c"))
        self.says("say a start 1 a say c ; say b", (0, 0, "a"), (0, 1, "b"), (0, 0, "c"))

    def test_pause_goes_on_one_tick_later(self):
        self.says("pause say a pause pause say b", (1, 0, "a"), (3, 0, "b"))
        self.lasts("pause say a pause pause say b", 3)
        self.lasts("pause", 1)

    def test_a_started_task_acts_at_once_until_it_stops(self):
        self.says(
            "say a start 1 a say d ; say b pause say c",
            (0, 0, "a"), (0, 1, "b"), (0, 0, "d"), (1, 1, "c"),
        )
        self.says("start 1 a say x ; start 2 a say y ; say z", (0, 2, "z"), (0, 1, "y"), (0, 0, "x"))

    def test_tasks_are_numbered_as_they_are_started(self):
        self.says(
            "start 1 a start 2 b pause start 2 c ; say x start 2 a ; say y",
            (0, 1, "x"), (0, 2, "y"), (0, 3, "y"), (1, 4, "y"),
        )
        self.says(
            "start 1 a start 1 b ; pause start 2 a ; say y",
            (1, 3, "y"), (1, 4, "y"),
        )

    def test_wait_with_a_variable_that_holds_nothing_is_a_pause(self):
        for variable in "abcd":
            self.says("wait " + variable + " say x wait " + variable + " say y", (1, 0, "x"), (2, 0, "y"))
            self.ends("wait " + variable, RETURNED)

    def test_variables_of_other_tasks_are_not_seen(self):
        self.says("start 1 a ; wait a say x ; pause pause", (1, 1, "x"))
        self.says("start 1 a wait b say x ; start 2 b ; pause pause pause", (1, 0, "x"))

    def test_each_variable_holds_its_own_task(self):
        self.says(
            "start 1 a start 2 b start 3 c start 4 d wait c say x wait d say y"
            " ; ; pause ; pause pause ; pause pause pause",
            (3, 0, "x"), (4, 0, "y"),
        )
        self.says("start 1 a start 2 b wait a say x ; ; pause pause pause", (1, 0, "x"))

    def test_a_variable_holds_the_latest_task(self):
        self.says("start 1 a start 2 a wait a say x ; pause pause pause ;", (1, 0, "x"))
        self.says("start 1 a start 2 a wait a say x ; ; pause pause pause", (4, 0, "x"))

    def test_wait_for_a_task_that_is_settled_already(self):
        self.says("start 1 a wait a say x ;", (1, 0, "x"))
        self.says("start 1 a pause pause wait a say x ; pause", (3, 0, "x"))

    def test_wait_for_a_task_that_is_running(self):
        self.says("start 1 a wait a say x ; pause pause", (3, 0, "x"))
        self.says("start 1 a wait a say x ; pause pause say y", (2, 1, "y"), (3, 0, "x"))

    def test_wait_again_for_the_same_task(self):
        self.says("start 1 a wait a wait a wait a say x ; pause pause", (5, 0, "x"))

    def test_the_other_task_settled_in_the_tick_of_the_wait(self):
        # In tick 1 task 1 is settled first, and in the other program task 0 begins to follow it first.
        self.says("start 1 a pause wait a say x ; pause", (2, 0, "x"))
        self.says("start 2 b start 1 a wait b wait a say x ; wait a pause ; pause", (3, 0, "x"))

    def test_return_does_no_further_statement(self):
        self.assertEqual(run("say x return say y"), (((0, 0, "x"),), (RETURNED,), 0))
        self.says("try { say x return say y } catch { say z } say u", (0, 0, "x"))
        self.says("repeat 3 { say x return }", (0, 0, "x"))
        self.says("start 1 a say y ; return say x", (0, 0, "y"))

    def test_the_end_of_the_body_returns(self):
        self.ends("start 1 a wait a ; pause", RETURNED, RETURNED)

    def test_repeat(self):
        self.says("repeat 3 { say x pause } say y", (0, 0, "x"), (1, 0, "x"), (2, 0, "x"), (3, 0, "y"))
        self.says("repeat 1 { say x }", (0, 0, "x"))
        self.assertEqual(run("repeat 100 { say x }")[0], ((0, 0, "x"),) * 100)
        self.lasts("repeat 100 { pause }", 100)

    def test_repeats_of_zero(self):
        self.assertEqual(run("repeat 0 { say x pause fail return } say y"), (((0, 0, "y"),), (RETURNED,), 0))
        self.says("repeat 2 { repeat 0 { say x } say y }", (0, 0, "y"), (0, 0, "y"))
        self.says("repeat 0 { repeat 2 { say x } }")

    def test_repeat_in_repeat(self):
        self.assertEqual(run("repeat 3 { repeat 4 { say x } pause }")[0], tuple(
            (tick, 0, "x") for tick in range(3) for _ in range(4)
        ))

    def test_start_in_repeat(self):
        self.says(
            "repeat 2 { start 1 a } wait a ; say x pause say y",
            (0, 1, "x"), (0, 2, "x"), (1, 1, "y"), (1, 2, "y"),
        )
        self.says("start 1 a repeat 2 { wait a start 2 a } say x ; pause pause ; pause", (5, 0, "x"))


class Adopting(Runs):
    """Of point 8 the adopt statement."""

    def settled(self, text):
        """The tick in which body 1 of the text is settled; body 0 waits for it and says so."""
        (tick, task, word), = [entry for entry in run("start 1 a wait a say x ; " + text)[0] if entry[1] == 0]
        self.assertEqual((task, word), (0, "x"))
        return tick - 1

    def test_a_variable_that_holds_nothing(self):
        self.assertEqual(self.settled("adopt a"), 0)
        self.assertEqual(self.settled("pause adopt d"), 1)
        self.assertEqual(run("say x adopt a say y"), (((0, 0, "x"),), (RETURNED,), 0))
        self.says("try { adopt a } catch { say x } say y")

    def test_a_task_that_is_settled_already(self):
        self.assertEqual(self.settled("start 2 a adopt a ;"), 2)
        self.assertEqual(self.settled("start 2 a pause pause adopt a ; pause"), 4)

    def test_a_task_that_is_settled_before_it_is_followed(self):
        self.assertEqual(self.settled("start 2 a adopt a ; pause"), 2)

    def test_a_task_that_is_settled_later(self):
        self.assertEqual(self.settled("start 2 a adopt a ; pause pause"), 3)
        self.assertEqual(self.settled("start 2 a adopt a ; repeat 9 { pause }"), 10)

    def test_adopting_one_that_adopts(self):
        self.assertEqual(self.settled("start 2 a adopt a ; start 3 a adopt a ;"), 3)
        self.assertEqual(self.settled("start 2 a adopt a ; start 3 a adopt a ; repeat 9 { pause }"), 11)

    def test_adopt_does_nothing_more(self):
        self.says("start 1 a adopt a say x ;")
        self.says("repeat 3 { start 1 a say x adopt a } ;", (0, 0, "x"))

    def test_it_is_settled_in_the_same_way(self):
        self.ends("start 1 a adopt a ; fail", FAILED, FAILED)
        self.ends("start 1 a adopt a ; pause fail", FAILED, FAILED)
        self.ends("start 1 a adopt a ; pause pause fail", FAILED, FAILED)
        self.ends("start 1 a adopt a ; pause return", RETURNED, RETURNED)

    def test_no_handler_is_done(self):
        text = "try { start 1 a try { adopt a } catch { say x } } catch { say y } say z ; fail"
        self.assertEqual(run(text), ((), (FAILED, FAILED), 2))

    def test_one_that_adopts_is_waited_for(self):
        self.says(
            "start 1 a try { wait a } catch { say x } ; start 2 a adopt a ; pause pause pause fail",
            (5, 0, "x"),
        )


class Failing(Runs):
    """Failing: points 8 and 9."""

    def test_outside_of_try_the_task_has_failed(self):
        self.assertEqual(run("say x fail say y"), (((0, 0, "x"),), (FAILED,), 0))
        self.ends("repeat 2 { fail }", FAILED)
        self.ends("pause fail", FAILED)

    def test_in_a_block_the_handler_is_done_instead(self):
        self.assertEqual(
            run("try { say a fail say b } catch { say c say d } say e"),
            (tuple((0, 0, word) for word in "acde"), (RETURNED,), 0),
        )

    def test_without_failing_no_handler_is_done(self):
        self.says("try { say a } catch { say b } say c", (0, 0, "a"), (0, 0, "c"))

    def test_behind_a_pause_it_is_still_the_same_block(self):
        self.says("try { pause fail } catch { pause say x } say y", (2, 0, "x"), (2, 0, "y"))

    def test_only_the_innermost_try_handles_it(self):
        self.says("try { try { fail } catch { say a } say b } catch { say c }", (0, 0, "a"), (0, 0, "b"))

    def test_failing_in_a_handler(self):
        self.ends("try { fail } catch { say a fail say b }", FAILED)
        self.says("try { try { fail } catch { fail } say a } catch { say b } say c", (0, 0, "b"), (0, 0, "c"))
        self.says("try { fail } catch { try { fail } catch { say a } say b }", (0, 0, "a"), (0, 0, "b"))

    def test_failing_in_repeats(self):
        self.says("try { repeat 3 { say a fail } } catch { say b }", (0, 0, "a"), (0, 0, "b"))
        self.says("repeat 2 { try { fail } catch { say a } say b }", *[(0, 0, word) for word in "abab"])

    def test_a_started_task_that_fails_is_not_noticed_without_wait(self):
        self.assertEqual(
            run("try { start 1 a say x } catch { say y } pause ; fail"),
            (((0, 0, "x"),), (RETURNED, FAILED), 1),
        )

    def test_wait_for_one_that_has_failed_already(self):
        self.assertEqual(run("start 1 a wait a say x ; fail"), ((), (FAILED, FAILED), 1))
        self.says("start 1 a try { wait a say x } catch { say y } ; fail", (1, 0, "y"))
        self.says("start 1 a pause try { wait a } catch { say y } ; pause fail", (2, 0, "y"))

    def test_wait_for_one_that_fails_later(self):
        self.says("start 1 a try { wait a say x } catch { say y } ; pause pause fail", (3, 0, "y"))
        self.ends("start 1 a wait a ; start 2 a wait a ; pause fail", FAILED, FAILED, FAILED)

    def test_each_wait_fails_again(self):
        self.says(
            "start 1 a repeat 2 { try { wait a } catch { say y } } wait a say x ; fail",
            (1, 0, "y"), (2, 0, "y"),
        )
        self.ends("start 1 a repeat 2 { try { wait a } catch { say y } } wait a say x ; fail", FAILED, FAILED)

    def test_wait_in_a_handler(self):
        self.ends("start 1 a try { fail } catch { wait a } ; fail", FAILED, FAILED)
        self.says("start 1 a try { wait a } catch { wait b say x } ; fail", (2, 0, "x"))

    def test_one_that_failed_is_left_by_a_later_start(self):
        self.says("start 1 a start 2 a wait a say x ; fail ;", (1, 0, "x"))


class Order(Runs):
    """Jobs first in, first out, and their ticks: points 9 and 10."""

    def test_jobs_are_done_first_in_first_out(self):
        self.says(
            "start 1 a start 2 a pause say a pause say b ; pause say c pause say d ; pause say e pause say f",
            (1, 1, "c"), (1, 2, "e"), (1, 0, "a"), (2, 1, "d"), (2, 2, "f"), (2, 0, "b"),
        )

    def test_the_job_of_one_that_waits_is_queued_when_the_other_is_settled(self):
        self.says(
            "start 1 a start 2 b wait a say x ; pause ; pause pause say y",
            (2, 0, "x"), (2, 2, "y"),
        )
        self.says(
            "start 2 b start 1 a wait a say x ; pause ; pause pause say y",
            (2, 1, "y"), (2, 0, "x"),
        )

    def test_the_job_is_queued_at_once_if_the_other_is_settled_already(self):
        self.says(
            "start 1 a start 2 b pause wait a say x ; pause ; pause pause say y",
            (2, 2, "y"), (2, 0, "x"),
        )

    def test_the_job_of_one_that_adopts(self):
        self.says(
            "start 1 a start 3 b wait a say x ; start 2 a adopt a ; pause pause ; repeat 4 { pause } say y",
            (4, 0, "x"), (4, 3, "y"),
        )
        self.says(
            "start 3 b start 1 a wait a say x ; start 2 a adopt a ; pause pause ; repeat 4 { pause } say y",
            (4, 1, "y"), (4, 0, "x"),
        )

    def test_what_a_task_queues_late_in_a_tick_comes_late_in_the_next_one(self):
        self.says(
            "start 1 a pause start 2 b pause say x ; pause pause say y ; pause say z",
            (2, 1, "y"), (2, 2, "z"), (2, 0, "x"),
        )

    def test_last_is_the_tick_of_the_last_job(self):
        self.lasts("start 1 a say x ; repeat 7 { pause }", 7)
        self.lasts("start 1 a adopt a ; repeat 7 { pause }", 8)
        self.lasts("start 1 a ; say x", 0)

    def test_all_tasks_are_told_with_their_outcomes(self):
        self.ends(
            "start 1 a start 2 b start 1 c ; fail ; start 3 a pause ; repeat 4 { pause } return",
            RETURNED, FAILED, RETURNED, RETURNED, FAILED,
        )


class Greater(unittest.TestCase):
    """Programs at the limits, and somewhat beyond them."""

    def test_a_program_of_size_600(self):
        program = ((("repeat", 100, (PAUSE,)), ("repeat", 98, (PAUSE,))),)
        check_program(program)
        self.assertEqual(run_program(program), ((), (RETURNED,), 198))
        starts = ((("start", 1, "a"),) * 26, (PAUSE,) * 20)
        self.assertEqual(run_program(starts), ((), (RETURNED,) * 27, 20))

    def test_eight_bodies_that_start_one_another(self):
        bodies = [(("start", at + 1, "a"), ("adopt", "a")) for at in range(7)]
        program = (*bodies, (("say", "x"), ("fail",)))
        check_program(program)
        self.assertEqual(run_program(program), (((0, 7, "x"),), (FAILED,) * 8, 8))

    def test_programs_of_greater_size(self):
        program = ((("repeat", 3000, (("say", "x"), PAUSE)),),)
        entries, outcomes, last = run_program(program)
        self.assertEqual(entries, tuple((tick, 0, "x") for tick in range(3000)))
        self.assertEqual((outcomes, last), ((RETURNED,), 3000))

    def test_blocks_a_hundred_deep(self):
        for wrap in (
            lambda inner: ("try", (inner,), (("say", "y"),)),
            lambda inner: ("try", (("fail",),), (inner,)),
            lambda inner: ("repeat", 1, (inner,)),
        ):
            statement = ("say", "x")
            for _ in range(100):
                statement = wrap(statement)
            self.assertEqual(run_program(((PAUSE, statement),)), (((1, 0, "x"),), (RETURNED,), 1))


class Compared(unittest.TestCase):
    """Many programs run twice: by the program, and by what the tests have for this."""

    def test_programs_of_all_kinds(self):
        made = reference.Programs(1)
        for _ in range(3000):
            program = made.program(made.random.randint(1, 5), made.random.randint(1, 10))
            self.assertEqual(run_program(program), reference.run(program), program)

    def test_programs_that_fail_and_adopt_often(self):
        made = reference.Programs(2, 3, (4, 3, 8, 5, 4, 1, 5, 5, 2))
        for _ in range(3000):
            program = made.program(made.random.randint(2, 6), made.random.randint(2, 8))
            self.assertEqual(run_program(program), reference.run(program), program)


class Interface(unittest.TestCase):
    """The name and the argument, and point 3."""

    def test_the_function_is_defined_here(self):
        self.assertEqual(run_program.__module__, "sameticks.tasks")
        self.assertEqual(list(inspect.signature(tasks.run_program).parameters), ["program"])

    def test_kinds_of_values(self):
        told = run_program(program=program_of("say x start 1 a ; fail"))
        self.assertEqual(told, (((0, 0, "x"),), ("returned", "failed"), 0))
        for part in (told, told[0], told[0][0], told[1]):
            self.assertIs(part.__class__, tuple)

    def test_the_same_run_again(self):
        program = program_of("start 1 a try { wait a } catch { say x } ; pause say y fail")
        before = repr(program)
        told = run_program(program)
        self.assertEqual(run_program(program), told)
        self.assertEqual(repr(program), before)


if __name__ == "__main__":
    unittest.main()
