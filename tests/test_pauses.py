"""Pauses: points 16, 17 and 18."""

import inspect
import unittest

import reference
from sameticks import pauses
from sameticks.errors import BadProgram, NoSuchPlace, TickError, TooMuch
from sameticks.pauses import fewest_pauses, slack, with_pauses
from sameticks.profiles import are_alike
from sameticks.programs import body_sizes, check_program
from sameticks.tasks import run_program
from sameticks.texts import program_of

PAUSE = ("pause",)

# Programs in which pauses can be put at places in blocks, in handlers, in repeats, and where nothing comes.
PROGRAMS = (
    "start 1 a wait a ; say x",
    "start 1 a pause say y ; say x",
    "say x try { say y pause fail say z } catch { say u try { } catch { } } repeat 0 { say v } say w",
    "repeat 3 { start 1 a wait a } ; try { pause say x fail } catch { say y } wait a",
    "start 1 a start 1 b try { wait a } catch { return } say x ; repeat 0 { pause } pause fail say y",
    "",
)


class Refusing(unittest.TestCase):

    def refuses(self, error, called, *arguments):
        with self.assertRaises(TickError) as caught:
            called(*arguments)
        self.assertIs(caught.exception.__class__, error)


class Put(Refusing):
    """Point 16: pauses put at a place."""

    def puts(self, text, body, statement, count, result):
        self.assertEqual(with_pauses(program_of(text), body, statement, count), program_of(result))

    def test_ahead_of_a_statement(self):
        self.puts("say x say y", 0, 0, 2, "repeat 2 { pause } say x say y")
        self.puts("say x say y", 0, 1, 1, "say x repeat 1 { pause } say y")
        self.puts("say x ; say y", 1, 0, 3, "say x ; repeat 3 { pause } say y")

    def test_at_the_end_of_a_body(self):
        self.puts("say x say y", 0, 2, 2, "say x say y repeat 2 { pause }")
        self.puts("", 0, 0, 2, "repeat 2 { pause }")
        self.puts("say x ; ; say y", 1, 0, 2, "say x ; repeat 2 { pause } ; say y")
        self.puts("say x try { } catch { say y }", 0, 3, 1, "say x try { } catch { say y } repeat 1 { pause }")

    def test_places_in_blocks_are_counted_in_the_order_of_the_text(self):
        text = "say a try { say c repeat 2 { say e say f } } catch { say g } say h repeat 3 { say j } say k"
        for number, ahead_of in enumerate((
            "say a", "try", "say c", "repeat 2", "say e", "say f", "say g", "say h", "repeat 3", "say j", "say k",
        )):
            if ahead_of not in ("say e", "say f"):
                with self.subTest(ahead_of):
                    self.puts(text, 0, number, 5, text.replace(ahead_of, "repeat 5 { pause } " + ahead_of))
        self.puts(text, 0, 11, 5, text + " repeat 5 { pause }")

    def test_counts_from_0_to_100(self):
        for count in (0, 1, 2, 99, 100):
            self.puts("say x", 0, 0, count, f"repeat {count} {{ pause }} say x")

    def test_places_that_there_are_not(self):
        program = program_of("say x try { say y } catch { } ; ; pause")
        for body, statement in (
            (0, 4), (0, -1), (0, 100), (1, 1), (1, -1), (2, 2), (3, 0), (3, 1), (-1, 0), (-3, 0), (8, 0),
        ):
            self.refuses(NoSuchPlace, with_pauses, program, body, statement, 1)
            self.refuses(NoSuchPlace, with_pauses, program, body, statement, 101)
            self.refuses(NoSuchPlace, slack, program, body, statement, 1)
            self.refuses(NoSuchPlace, slack, program, body, statement, 0)
        self.refuses(NoSuchPlace, with_pauses, ((("say", "X"),),), 1, 0, 1)

    def test_other_counts(self):
        for count in (-2, -1, 101, 102):
            self.refuses(BadProgram, with_pauses, program_of("say x"), 0, 0, count)
            self.refuses(BadProgram, with_pauses, program_of("say x"), 0, 1, count)

    def test_blocks_that_would_be_three_deep(self):
        program = program_of("try { repeat 1 { say x } } catch { try { } catch { say y } }")
        for statement in (2, 4):
            self.refuses(BadProgram, with_pauses, program, 0, statement, 1)
            self.refuses(BadProgram, with_pauses, program, 0, statement, 0)
        for statement in (0, 1, 3, 5):
            check_program(with_pauses(program, 0, statement, 1))

    def test_40_statements_and_41(self):
        check_program(with_pauses((((PAUSE,) * 38),), 0, 38, 1))
        self.refuses(BadProgram, with_pauses, ((PAUSE,) * 39,), 0, 39, 1)
        self.refuses(BadProgram, with_pauses, ((PAUSE,) * 39,), 0, 0, 0)
        self.assertEqual(len(with_pauses(((PAUSE,) * 40, ()), 1, 0, 1)[1]), 1)
        self.refuses(BadProgram, with_pauses, ((PAUSE,) * 40, ()), 0, 0, 1)

    def test_sizes_of_600_and_601(self):
        program = ((("repeat", 100, (PAUSE,)),),)
        self.assertEqual(body_sizes(program), (304,))
        self.assertEqual(body_sizes(with_pauses(program, 0, 0, 98)), (600,))
        self.refuses(BadProgram, with_pauses, program, 0, 0, 99)
        self.refuses(BadProgram, with_pauses, program, 0, 1, 1)
        self.assertEqual(body_sizes(with_pauses(((("start", 1, "a"),) * 26, ()), 1, 0, 6)), (600, 22))
        self.refuses(BadProgram, with_pauses, ((("start", 1, "a"),) * 26, ()), 1, 0, 7)

    def test_what_is_no_program_without_them(self):
        self.refuses(BadProgram, with_pauses, ((("say", "X"),),), 0, 0, 1)

    def test_all_places_of_some_programs(self):
        for text in PROGRAMS:
            program = program_of(text)
            for body, statement in reference.places(program):
                for count in (0, 1, 7):
                    result = reference.with_rows(program, [(body, statement, count)])
                    check_program(result)
                    self.assertEqual(with_pauses(program, body, statement, count), result)


class Slack(unittest.TestCase):
    """Point 17."""

    def bears(self, text, body, statement, *, limit=100, told):
        program = program_of(text)
        self.assertEqual(slack(program, body, statement, limit), told)

    def test_so_many_and_no_more(self):
        # Task 1 stands first in the queue of each tick.
        text = "start 1 a pause pause pause say y ; say x"
        self.bears(text, 1, 0, told=3)
        self.bears(text.replace("start 1 a", "pause start 1 a"), 1, 0, told=3)
        self.bears("start 1 a say y ; say x", 1, 0, told=0)
        self.bears("pause start 1 a ; say x", 1, 0, told=100)

    def test_behind_the_other_in_the_queue_it_is_one_less(self):
        self.bears("start 2 a start 1 b ; say x ; pause pause pause say y", 1, 0, told=2)
        self.bears("start 1 b start 2 a ; say x ; pause pause pause say y", 1, 0, told=3)

    def test_limits(self):
        text = "start 1 a pause pause pause say y ; say x"
        for limit, told in ((0, 0), (1, 1), (2, 2), (3, 3), (4, 3), (5, 3), (100, 3)):
            self.bears(text, 1, 0, limit=limit, told=told)
        for limit in (0, 1, 99, 100):
            self.bears(text, 0, 0, limit=limit, told=limit)
        self.bears("say x", 0, 0, limit=0, told=0)

    def test_the_limit_of_100(self):
        text = "start 1 a repeat 100 { pause } say y ; say x"
        self.bears(text, 1, 0, told=100)
        self.bears(text.replace("100", "99"), 1, 0, told=99)

    def test_a_greater_number_after_which_it_is_the_same_again(self):
        program = program_of(
            "start 2 b start 1 a say y wait a say x pause ; say y say x start 2 a start 2 b ; pause wait b say x"
        )
        words = reference.words(program)
        same = [reference.words(reference.with_rows(program, [(1, 0, count)])) == words for count in range(4)]
        self.assertEqual(same, [True, False, True, True])
        self.assertEqual(slack(program, 1, 0, 100), 0)

    def test_only_the_words_and_their_order_count(self):
        self.bears("say x pause say y", 0, 1, told=100)
        self.bears("say x", 0, 0, told=100)
        self.bears("start 1 a start 2 a ; say x ; pause pause say x", 1, 0, told=100)

    def test_silent_programs(self):
        self.bears("", 0, 0, told=100)
        self.bears("start 1 a wait a ; fail", 1, 0, told=100)

    def test_places_that_are_never_passed(self):
        self.bears("say x return say y", 0, 2, told=100)
        self.bears("start 1 a ; say x ; say y", 2, 0, told=100)
        self.bears("start 1 a say x ; return say y", 1, 1, told=100)

    def test_a_place_in_a_repeat_is_passed_often(self):
        text = "start 1 a repeat 12 { pause } say y ; repeat 4 { say x }"
        self.bears(text, 1, 0, told=12)
        self.bears(text, 1, 1, told=3)

    def test_a_body_that_is_started_often(self):
        text = "start 1 a start 1 b repeat 5 { pause } say y ; pause pause say x"
        self.bears(text, 1, 0, told=3)

    def test_places_two_deep(self):
        text = "start 1 a repeat 5 { pause } say y ; try { repeat 2 { say x } } catch { }"
        self.bears(text, 1, 2, told=2)

    def test_programs_that_become_greater_than_600(self):
        long = (("repeat", 100, (PAUSE,)), ("repeat", 97, (PAUSE,)), PAUSE, ("say", "x"))
        check_program((long,))
        for statement in range(7):
            self.assertEqual(slack((long,), 0, statement, 100), 100)
        often = ((("repeat", 17, (("repeat", 15, ()),)),),)
        check_program(often)
        self.assertEqual(slack(often, 0, 1, 100), 100)

    def test_often_passed_up_to_the_limit_of_100(self):
        program = ((("start", 1, "a"), ("repeat", 70, (("start", 2, "a"), ("wait", "a")))), (), ())
        check_program(program)
        for body, statement in reference.places(program):
            self.assertEqual(slack(program, body, statement, 100), 100)

    def test_many_programs(self):
        made = reference.Programs(21, 2, (6, 5, 9, 5, 1, 0.3, 0.7, 2, 1))
        for _ in range(400):
            program = made.program(made.random.randint(2, 4), 6)
            body, statement = made.random.choice(reference.places(program))
            self.assertEqual(
                slack(program, body, statement, 5), reference.slack(program, body, statement, 5),
                (program, body, statement),
            )


class Fewest(Refusing):
    """Point 18."""

    def fewest(self, one, other, rows, limit=3):
        self.assertEqual(fewest_pauses(program_of(one), program_of(other), limit), rows)

    def test_the_example_of_point_2(self):
        self.fewest("start 1 a wait a ; say x", "start 1 a adopt a ; say x", ((0, 1, 1),))
        self.fewest("start 1 a adopt a ; say x", "start 1 a wait a ; say x", None)

    def test_programs_that_are_alike_already(self):
        for limit in range(4):
            self.fewest("say x", "say x start 1 a ; pause", (), limit)
            self.fewest("", "", (), limit)

    def test_limits(self):
        for limit in range(4):
            for many in range(6):
                rows = () if many == 0 else ((0, 0, many),)
                self.fewest("", "pause " * many, rows if many <= limit else None, limit)

    def test_greater_limits(self):
        for limit in (4, 5, 100):
            self.refuses(TooMuch, fewest_pauses, ((),), ((),), limit)
            self.refuses(TooMuch, fewest_pauses, ((),), ((PAUSE,),), limit)

    def test_no_pauses_undo_anything(self):
        self.fewest("pause", "", None)
        self.fewest("say x", "say y", None)
        self.fewest("say x", "", None)
        self.fewest("", "say x", None)
        self.fewest("fail", "", None)
        self.fewest("fail", "pause", None)
        self.fewest("fail", "pause fail", ((0, 0, 1),))

    def test_the_first_tuple_of_rows_is_told(self):
        self.fewest("pause", "pause pause", ((0, 0, 1),))
        self.fewest("pause", "pause pause pause", ((0, 0, 1), (0, 1, 1)))
        self.fewest("pause", "pause pause pause pause", ((0, 0, 1), (0, 1, 2)))
        self.fewest("pause pause", "repeat 5 { pause }", ((0, 0, 1), (0, 1, 1), (0, 2, 1)))
        self.fewest("say x pause", "say x repeat 4 { pause }", ((0, 1, 1), (0, 2, 2)))

    def test_the_first_ones_are_those_of_earlier_bodies(self):
        self.fewest("start 1 a wait a ;", "pause pause", ((0, 0, 1),))
        self.fewest("start 1 a wait a say x ; say y", "start 1 a wait a say x ; pause say y", ((0, 0, 1),))
        self.fewest(
            "start 1 a wait a say x ; say y pause", "start 1 a wait a say x ; say y pause pause", ((0, 2, 1),)
        )
        self.fewest("start 1 a ; say y pause say z", "start 1 a ; say y pause pause say z", ((1, 1, 1),))

    def test_several_rows(self):
        self.fewest("say x say y", "pause say x pause say y", ((0, 0, 1), (0, 1, 1)))
        self.fewest("say x say y", "pause say x pause say y pause", ((0, 0, 1), (0, 1, 1), (0, 2, 1)))
        self.fewest("say x say y", "pause say x pause pause say y", ((0, 0, 1), (0, 1, 2)))
        self.fewest(
            "say x start 1 a ; say y pause", "pause say x start 1 a ; pause say y pause", ((0, 0, 1), (1, 0, 1))
        )

    def test_the_least_sum_goes_ahead_of_an_earlier_tuple(self):
        # Two pauses, one in each of two bodies, would do as well.
        self.fewest(
            "start 1 a start 2 b wait a wait b ; pause say x ; pause say y",
            "pause start 1 a start 2 b wait a wait b ; pause say x ; pause say y", ((0, 0, 1),),
        )
        self.fewest(
            "start 1 a say z ; pause say x pause say y", "start 1 a say z ; pause pause say x pause say y", ((1, 0, 1),)
        )

    def test_pauses_that_change_only_the_order(self):
        one = "start 1 a start 2 b wait a say x ; pause ; pause pause say y"
        other = "start 1 a start 2 b pause wait a say x ; pause ; pause pause say y"
        self.fewest(one, other, ((0, 2, 1),))

    def test_pauses_that_change_only_the_place(self):
        speaking = "; pause ; repeat 4 { pause } say x"
        self.fewest(
            f"start 1 a start 2 b wait a {speaking}", f"start 2 b start 1 a wait a {speaking}", ((0, 2, 1),)
        )

    def test_places_in_blocks_and_repeats(self):
        self.fewest("repeat 3 { say x }", "pause say x pause say x pause say x", ((0, 1, 1),))
        self.fewest("repeat 3 { say x }", "say x pause say x pause say x pause", None)
        self.fewest("repeat 3 { say x } say y", "repeat 3 { say x } pause say y", ((0, 2, 1),))
        self.fewest("repeat 5 { pause } say x", "repeat 10 { pause } say x", ((0, 1, 1),))
        self.fewest("repeat 5 { pause } say x", "repeat 17 { pause } say x", None)
        self.fewest("repeat 5 { pause } say x", "repeat 11 { pause } say x", ((0, 0, 1), (0, 1, 1)))
        self.fewest("try { say x fail } catch { say y }", "say x pause say y", ((0, 2, 1),))
        self.fewest("try { fail } catch { repeat 2 { say y } }", "pause say y pause say y", ((0, 3, 1),))

    def test_bodies_that_are_started_several_times(self):
        one = "start 1 a start 1 b wait a start 1 c ; say x"
        other = "start 1 a start 1 b wait a start 1 c ; pause pause say x"
        self.fewest(one, other, ((1, 0, 2),))
        self.fewest(
            "repeat 9 { start 1 a wait a } ; say x", "repeat 9 { start 1 a wait a } ; say x pause", ((0, 2, 1),)
        )
        self.fewest(
            "repeat 9 { start 1 a wait a } ; say x pause", "repeat 9 { start 1 a wait a } ; say x pause pause",
            ((1, 1, 1),),
        )

    def test_places_that_are_never_passed(self):
        self.fewest("say x return say y", "say x pause", ((0, 1, 1),))
        self.fewest("start 1 a repeat 0 { pause } say x ; return pause", "pause say x", ((0, 0, 1),))

    def test_tasks_that_nobody_waits_for(self):
        self.fewest("start 1 a ; pause say x return", "start 1 a ; pause pause say x", ((1, 0, 1),))
        self.fewest(
            "start 1 a ; pause start 2 a return ; say x return", "start 1 a ; pause pause say x", ((1, 0, 1),)
        )
        self.fewest("start 1 a ; say x pause return", "start 1 a ; say x pause pause fail", ())
        self.fewest("start 1 a say x ; start 2 a wait a ; pause return", "pause say x", ((0, 0, 1),))

    def test_programs_that_become_greater_than_programs_may_be(self):
        full = (PAUSE,) * 39 + (("say", "x"),)
        self.assertEqual(
            fewest_pauses((full,), ((("repeat", 42, (PAUSE,)), ("say", "x")),), 3),
            ((0, 0, 1), (0, 1, 1), (0, 2, 1)),
        )
        long = (("repeat", 100, (PAUSE,)), ("repeat", 98, (PAUSE,)))
        longer = (("repeat", 100, (PAUSE,)), ("repeat", 98, (PAUSE,)), PAUSE, PAUSE, PAUSE)
        self.assertEqual(fewest_pauses((long,), (longer,), 3), ((0, 0, 1), (0, 2, 1), (0, 4, 1)))
        deep = program_of("repeat 2 { try { say x } catch { } }")
        self.assertEqual(fewest_pauses(deep, program_of("repeat 2 { pause say x }"), 3), ((0, 1, 1),))
        deep = program_of("repeat 2 { try { say x say y } catch { } }")
        self.assertEqual(fewest_pauses(deep, program_of("repeat 2 { say x pause say y }"), 3), ((0, 3, 1),))

    def test_with_all_of_them_it_is_alike_with_the_other_one(self):
        made = reference.Programs(22, 3)
        for _ in range(200):
            program = made.program(made.random.randint(2, 8), 30)
            places = made.random.sample(reference.places(program), 2)
            other = reference.with_rows(program, [(*place, 1) for place in places])
            rows = fewest_pauses(program, other, 3)
            self.assertLessEqual(sum(count for _, _, count in rows), 2)
            self.assertTrue(are_alike(reference.with_rows(program, rows), other))

    def test_many_programs_by_trying_all_rows(self):
        made = reference.Programs(23, 2, (2, 4, 8, 6, 1, 0.2, 0.4, 1, 2))
        for _ in range(250):
            program = made.program(made.random.randint(1, 3), 5)
            chosen = [made.random.choice(reference.places(program)) for _ in range(made.random.randint(1, 3))]
            rows = [(*place, chosen.count(place)) for place in set(chosen)]
            other = reference.with_rows(program, rows)
            self.assertEqual(fewest_pauses(program, other, 3), reference.fewest_pauses(program, other, 3))
            other = made.program(made.random.randint(1, 3), 4)
            self.assertEqual(fewest_pauses(program, other, 2), reference.fewest_pauses(program, other, 2))


class GreatPrograms(unittest.TestCase):
    """Point 18 with the limit 3, for programs with several hundred places."""

    def checked(self, program):
        check_program(program)
        return program

    def later(self, program, many):
        """The same program with pauses ahead of the last statement of body 0."""
        body = program[0]
        return (body[:-1] + (PAUSE,) * many + body[-1:],) + program[1:]

    def test_many_silent_tasks_side_by_side(self):
        starts = tuple(("start", number, "abcd"[number // 2]) for number in range(1, 8))
        waits = tuple(("wait", variable) for variable in "abcd")
        speaking = (PAUSE,) * 36 + (("say", "y"),)
        program = self.checked((starts + waits + (("say", "x"),),) + (speaking,) * 7)
        self.assertEqual(
            fewest_pauses(program, self.later(program, 3), 3), ((0, 8, 1), (0, 9, 1), (0, 10, 1))
        )
        self.assertIsNone(fewest_pauses(program, self.later(program, 4), 3))

    def test_words_in_all_ticks(self):
        speaking = (("say", "x"), PAUSE) * 19
        starts = tuple(("start", number, "a") for number in range(1, 8))
        program = self.checked((starts + (("wait", "a"),),) + (speaking,) * 7)
        rows = ((2, 7, 1), (3, 1, 1), (7, 36, 1))
        other = reference.with_rows(program, rows)
        told = fewest_pauses(program, other, 3)
        self.assertTrue(are_alike(reference.with_rows(program, told), other))
        self.assertIsNone(fewest_pauses(program, reference.with_rows(program, [*rows, (4, 0, 1)]), 3))

    def test_one_body_again_and_again(self):
        program = self.checked(((("start", 1, "a"), ("wait", "a")) * 12 + (("say", "x"),), (PAUSE,) * 38))
        self.assertEqual(fewest_pauses(program, self.later(program, 3), 3), ((0, 0, 1), (0, 2, 1), (0, 4, 1)))
        self.assertEqual(fewest_pauses(program, self.later(program, 12), 3), ((1, 0, 1),))
        self.assertEqual(fewest_pauses(program, self.later(program, 26), 3), None)
        self.assertEqual(fewest_pauses(program, self.later(program, 36), 3), ((1, 0, 1), (1, 1, 1), (1, 2, 1)))

    def test_bodies_of_many_starts(self):
        program = self.checked(((("start", 1, "a"),) * 39 + (("say", "x"),), (PAUSE,) * 9 + (("say", "y"),)))
        self.assertEqual(fewest_pauses(program, self.later(program, 3), 3), ((0, 39, 3),))


class Interface(unittest.TestCase):
    """The names and arguments, and point 3."""

    def test_the_functions_are_defined_here_with_these_arguments(self):
        for name, arguments in (
            ("with_pauses", ["program", "body", "statement", "count"]),
            ("slack", ["program", "body", "statement", "limit"]), ("fewest_pauses", ["program", "other", "limit"]),
        ):
            function = getattr(pauses, name)
            self.assertEqual(function.__module__, "sameticks.pauses")
            self.assertEqual(list(inspect.signature(function).parameters), arguments)

    def test_arguments_can_be_named(self):
        program = program_of("say x")
        self.assertEqual(with_pauses(program=program, body=0, statement=1, count=2), program_of(
            "say x repeat 2 { pause }"
        ))
        self.assertEqual(slack(program=program, body=0, statement=0, limit=5), 5)
        self.assertEqual(fewest_pauses(program=program, other=program, limit=3), ())

    def test_kinds_of_values(self):
        rows = fewest_pauses(program_of("say x say y"), program_of("pause say x pause say y"), 2)
        for part in (rows, *rows):
            self.assertIs(part.__class__, tuple)
        for body in with_pauses(program_of("repeat 1 { say x } ; say y"), 0, 1, 1):
            self.assertIs(body.__class__, tuple)

    def test_arguments_are_not_modified(self):
        program, other = program_of(PROGRAMS[3]), program_of(PROGRAMS[4])
        before = (repr(program), repr(other))
        for _ in range(2):
            with_pauses(program, 1, 2, 3)
            self.assertEqual(slack(program, 1, 2, 9), 9)
            self.assertIsNone(fewest_pauses(program, other, 3))
            run_program(program)
        self.assertEqual((repr(program), repr(other)), before)


if __name__ == "__main__":
    unittest.main()
