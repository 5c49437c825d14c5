"""Contexts: points 7, 12 and 15."""

import inspect
import itertools
import unittest

import reference
from sameticks import contexts
from sameticks.contexts import put_into, tell_apart
from sameticks.errors import BadProgram, TickError
from sameticks.profiles import are_alike, profile_of, standard_program
from sameticks.programs import all_statements, body_sizes, check_context, check_program
from sameticks.tasks import run_program
from sameticks.texts import program_of

PAUSE = ("pause",)


def pauses(count):
    return (PAUSE,) * count


class Put(unittest.TestCase):
    """Point 7: programs put into contexts."""

    def puts(self, context, program, text):
        result = put_into(context, program_of(program))
        self.assertEqual(result, program_of(text))
        self.assertEqual(result, reference.put(context, program_of(program)))

    def refuses(self, context, program):
        with self.assertRaises(TickError) as caught:
            put_into(context, program)
        self.assertIs(caught.exception.__class__, BadProgram)

    def test_the_bodies_stand_behind_those_of_the_context(self):
        self.puts(((("start", 1, "a"), ("wait", "a")),), "say x", "start 1 a wait a ; say x")
        self.puts((pauses(2), (("start", 2, "c"),)), "say x ; say y", "pause pause ; start 2 c ; say x ; say y")

    def test_start_statements_of_the_program_name_greater_numbers(self):
        self.puts(
            ((("start", 1, "a"),),), "start 1 a start 2 b ; start 2 c ;",
            "start 1 a ; start 2 a start 3 b ; start 3 c ;",
        )
        self.puts(((), (), ()), "start 1 d ;", "; ; ; start 4 d ;")

    def test_start_statements_of_the_context_stay(self):
        context = ((("start", 1, "a"), ("start", 2, "b")), (("start", 2, "c"),))
        self.puts(context, "start 1 a ;", "start 1 a start 2 b ; start 2 c ; start 3 a ;")

    def test_start_statements_in_blocks(self):
        inner = "try { start 1 a repeat 2 { start 2 b } } catch { try { } catch { start 2 c } } start 1 d ; ;"
        outer = "try { start 2 a repeat 2 { start 3 b } } catch { try { } catch { start 3 c } } start 2 d ; ;"
        self.puts(((("start", 1, "a"),),), inner, "start 1 a ; " + outer)
        context = ((("try", (("start", 2, "a"),), (("repeat", 1, (("start", 1, "a"),)),)),), ())
        self.puts(
            context, "start 1 b ; say x", "try { start 2 a } catch { repeat 1 { start 1 a } } ; ; start 3 b ; say x"
        )

    def test_all_other_statements_stay(self):
        text = "say x pause wait a adopt b return fail try { wait c } catch { } repeat 3 { say y }"
        self.puts(((("start", 1, "a"),),), text, "start 1 a ; " + text)

    def test_the_result_does_what_the_context_says(self):
        made = reference.Programs(11)
        for _ in range(500):
            context = made.context(made.random.randint(1, 3), 6)
            program = made.program(made.random.randint(1, 4), 6)
            result = reference.put(context, program)
            if max(body_sizes(result)) <= 600:
                self.assertEqual(put_into(context, program), result)
                self.assertEqual(run_program(put_into(context, program)), reference.run(result))
            else:
                self.refuses(context, program)

    def test_eight_bodies_and_nine(self):
        for many in range(1, 8):
            context = ((("start", many, "a"),),) + ((),) * (many - 1)
            check_context(context)
            for bodies in range(1, 9):
                program = ((("say", "x"),),) + ((),) * (bodies - 1)
                if many + bodies <= 8:
                    self.assertEqual(put_into(context, program), context + program)
                else:
                    self.refuses(context, program)

    def test_sizes_of_600_and_601(self):
        program = (pauses(20),)
        context = ((("start", 1, "a"),) * 26,)
        self.assertEqual(body_sizes(put_into(context, program)), (600, 22))
        self.refuses(context, (pauses(21),))
        self.refuses((context[0] + (PAUSE,),), program)
        self.refuses(((("repeat", 100, (("repeat", 100, ()),)),),), program)

    def test_a_program_that_is_none(self):
        context = ((("start", 1, "a"),),)
        for program in (
            (pauses(41),), ((("say", "X"),),), ((("start", 1, "a"),),), ((), (("start", 0, "a"),)), (),
            ((("start", 0, "a"),),), ((("start", -1, "a"),),), ((("repeat", 101, ()),),),
            ((("try", (("try", (("try", (), ()),), ()),), ()),),),
        ):
            self.refuses(context, program)


class Apart(unittest.TestCase):
    """Points 12 and 15: contexts that tell programs apart."""

    def are_told_apart(self, one, other):
        """The programs are not alike, and what is told is so."""
        told = tell_apart(one, other)
        self.assertIs(told.__class__, tuple)
        context, said, other_said = told
        self.assertLessEqual(len(context), 3)
        self.assertGreaterEqual(len(context), 1)
        starts = [
            statement for body in context for statement in all_statements(body) if statement[0] == "start"
        ]
        self.assertIn(len(context), [statement[1] for statement in starts])
        self.assertNotEqual(said, other_said)
        self.assertEqual(reference.words(reference.put(context, one)), said)
        self.assertEqual(reference.words(reference.put(context, other)), other_said)
        return context

    def in_both_orders(self, one, other):
        one, other = program_of(one), program_of(other)
        check_context(self.are_told_apart(one, other))
        check_context(self.are_told_apart(other, one))

    def none(self, one, other):
        self.assertIsNone(tell_apart(program_of(one), program_of(other)))
        self.assertIsNone(tell_apart(program_of(other), program_of(one)))

    def test_alike_programs(self):
        self.none("start 1 a wait a ; say x", "start 1 a wait a ; say x")
        self.none("start 1 a wait a ; say x pause say y", "start 1 a adopt a ; say x pause say y")
        self.none("", "return ; fail")
        self.none("say x", "start 1 a ; say x pause")

    def test_the_example_of_point_2(self):
        self.in_both_orders("start 1 a wait a ; say x", "start 1 a adopt a ; say x")

    def test_silent_programs(self):
        self.in_both_orders("", "pause")
        self.in_both_orders("", "fail")
        self.in_both_orders("pause pause", "pause")
        self.in_both_orders("pause pause fail", "pause pause")
        self.in_both_orders("repeat 90 { pause }", "repeat 90 { pause } pause")

    def test_other_words(self):
        self.in_both_orders("say x", "say y")
        self.in_both_orders("say x say y", "say y say x")
        self.in_both_orders("say x", "say x say x")
        self.in_both_orders("", "start 1 a ; pause pause pause say x")

    def test_other_ticks(self):
        self.in_both_orders("say x pause", "pause say x")
        self.in_both_orders("start 1 a ; pause say x", "start 1 a ; pause pause say x")
        self.in_both_orders("start 1 a ; say x pause say x say x", "start 1 a ; say x say x pause say x")

    def test_settled_in_other_ticks(self):
        speaking = " ; say x pause say x pause say x pause say x pause say x"
        firsts = ["start 1 a" + " pause" * many for many in range(8)]
        for one, other in itertools.combinations(firsts, 2):
            self.in_both_orders(one + speaking, other + speaking)

    def test_failed(self):
        self.in_both_orders("say x pause say x fail", "say x pause say x")
        self.in_both_orders("start 1 a fail ; pause pause say x", "start 1 a ; pause pause say x")

    def test_other_places(self):
        speaking = " ; repeat 4 { pause } say x ; pause"
        self.in_both_orders("start 1 a start 2 b wait b" + speaking, "start 2 b start 1 a wait b" + speaking)
        speaking = speaking.replace("say x", "say x say x")
        self.in_both_orders("start 1 a start 2 b wait b" + speaking, "start 2 b start 1 a wait b" + speaking)

    def test_words_that_a_context_might_say(self):
        words = ["x", "y", "z", "a", "b", "p", "tick", "place", "failed", "mark", *map(str, range(30))]
        saying = "".join(f"say {word} " for word in words[:38])
        self.in_both_orders(saying + "pause", saying)
        self.in_both_orders(saying + "fail", saying)
        for one, other in itertools.combinations("0123", 2):
            self.in_both_orders(
                f"say {one} pause say {other} pause say {one}", f"say {one} say {other} pause say {one}"
            )
            self.in_both_orders(
                f"start 1 a repeat 4 {{ say {one} pause }} ; say {other} pause say {other}",
                f"start 1 a repeat 4 {{ say {one} pause }} ; say {other} pause pause say {other}",
            )

    def test_equal_words_in_the_context_of_only_the_program(self):
        one, other = program_of("say x pause say x"), program_of("say x say x")
        self.assertEqual(reference.words(one), reference.words(other))
        self.are_told_apart(one, other)

    def test_all_profiles_of_few_words(self):
        made = []
        for ticks in ((), (("x",),), ((), ("x",)), (("x",), ("x",)), ((), (), (), ("x", "x"))):
            for settled in range(4):
                counts = [
                    range(len(words) + 1) if settled > 1 else (len(words),) for words in ticks[settled + 1:]
                ]
                for before in itertools.product(*counts):
                    made.append(standard_program((ticks, settled, True, before)))
                    made.append(standard_program((ticks, settled, False, before)))
        for one, other in itertools.combinations(made, 2):
            self.are_told_apart(one, other)

    def test_many_programs(self):
        for seed, many_words in ((12, 1), (13, 2)):
            made = reference.Programs(seed, many_words, (5, 5, 9, 5, 3, 1, 3, 3, 2))
            programs = [made.program(made.random.randint(1, 4), 6) for _ in range(60)]
            for one, other in itertools.combinations(programs, 2):
                if reference.profile(one) == reference.profile(other):
                    self.assertIs(are_alike(one, other), True)
                    self.assertIsNone(tell_apart(one, other))
                else:
                    self.assertIs(are_alike(one, other), False)
                    self.are_told_apart(one, other)

    def test_programs_of_eight_bodies_and_of_size_600(self):
        chain = "".join(f"start {number} a wait a ; " for number in range(1, 8))
        self.in_both_orders(chain + "say x", chain + "fail")
        long = (("repeat", 100, (PAUSE,)), ("repeat", 98, (PAUSE,)))
        check_program((long,))
        self.are_told_apart((long,), (long[:1] + (("repeat", 97, (PAUSE,)),),))
        self.are_told_apart((long,), (long[:1] + (("repeat", 97, (PAUSE,)), PAUSE, ("fail",)),))

    def test_1300_ticks_with_1300_words(self):
        ticks = (("x",),) * 1300
        late = ((("x",),) * 1298) + ((), ("x", "x"))
        settled = [
            standard_program((ticks, at, returned, (1,) * (1299 - at)))
            for at, returned in ((0, True), (0, False), (649, True), (650, True))
        ]
        settled.append(standard_program((ticks, 650, True, (1,) * 648 + (0,))))
        settled.append(standard_program((late, 650, True, (1,) * 647 + (0, 1))))
        for one, other in itertools.combinations(settled, 2):
            self.are_told_apart(one, other)
        self.assertIsNone(tell_apart(settled[2], standard_program(profile_of(settled[2]))))


class Interface(unittest.TestCase):
    """The names and arguments, and point 3."""

    def test_the_functions_are_defined_here_with_these_arguments(self):
        for name, arguments in (("put_into", ["context", "program"]), ("tell_apart", ["one", "other"])):
            function = getattr(contexts, name)
            self.assertEqual(function.__module__, "sameticks.contexts")
            self.assertEqual(list(inspect.signature(function).parameters), arguments)

    def test_arguments_can_be_named(self):
        context = ((("start", 1, "a"),),)
        self.assertEqual(put_into(context=context, program=((),)), context + ((),))
        self.assertIsNone(tell_apart(one=((),), other=((),)))

    def test_kinds_of_values(self):
        context, said, other_said = tell_apart(program_of("say x"), program_of("say x fail"))
        for part in (context, context[0], context[0][0], said, other_said):
            self.assertIs(part.__class__, tuple)
        for word in said + other_said:
            self.assertIs(word.__class__, str)
        for body in put_into(((("start", 1, "a"),),), program_of("repeat 1 { start 1 a } ;")):
            self.assertIs(body.__class__, tuple)

    def test_arguments_are_not_modified(self):
        one, other = program_of("start 1 a wait a ; fail"), program_of("start 1 a ; say x")
        before = (repr(one), repr(other))
        told = tell_apart(one, other)
        self.assertEqual(tell_apart(one, other), told)
        put_into(((("start", 1, "a"),),), one)
        self.assertEqual((repr(one), repr(other)), before)


if __name__ == "__main__":
    unittest.main()
