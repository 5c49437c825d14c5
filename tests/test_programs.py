"""Programs, contexts, frames, sizes and places: points 3 to 7, 16 and 19."""

import inspect
import unittest

from sameticks import programs
from sameticks.errors import BadContext, BadFrame, BadProgram, NoSuchPlace, TickError
from sameticks.programs import body_sizes, check_context, check_frame, check_place, check_program

PAUSE = ("pause",)
EACH_KIND = (
    ("say", "x"), PAUSE, ("start", 1, "a"), ("wait", "b"), ("adopt", "c"), ("return",), ("fail",),
    ("try", (), ()), ("repeat", 3, ()),
)


def pauses(count):
    return (PAUSE,) * count


def nested(depth, how):
    """A statement with blocks so deep, made by `how` from the block inside."""
    statement = PAUSE
    for _ in range(depth):
        statement = how((statement,))
    return statement


def in_block(block):
    return ("try", block, ())


def in_handler(block):
    return ("try", (), block)


def in_repeat(block):
    return ("repeat", 1, block)


def empty_inside(how):
    """Like `how`, but for the innermost block, which is empty."""
    def made(block):
        return how(() if block == (PAUSE,) else block)
    return made


WAYS = tuple(
    way for how in (in_block, in_handler, in_repeat) for way in (how, empty_inside(how))
)


class Checked(unittest.TestCase):
    """What the three checks have in common."""

    def is_program(self, program):
        self.assertIsNone(check_program(program))

    def no_program(self, program):
        with self.assertRaises(TickError) as caught:
            check_program(program)
        self.assertIs(caught.exception.__class__, BadProgram)

    def is_context(self, context):
        self.assertIsNone(check_context(context))

    def no_context(self, context):
        for check in (check_context, check_frame):
            with self.assertRaises(TickError) as caught:
                check(context)
            self.assertIs(caught.exception.__class__, BadContext)

    def is_frame(self, frame):
        self.assertIsNone(check_frame(frame))

    def no_frame(self, frame):
        """A context, but no frame."""
        self.assertIsNone(check_context(frame))
        with self.assertRaises(TickError) as caught:
            check_frame(frame)
        self.assertIs(caught.exception.__class__, BadFrame)

    def bodies_hold(self, *bodies):
        self.is_program(bodies)
        self.is_context(bodies)

    def bodies_fail(self, *bodies):
        self.no_program(bodies)
        self.no_context(bodies)

    def statement_holds(self, statement):
        """The statement is allowed, and so it is in blocks."""
        self.bodies_hold((statement,))
        for how in (in_block, in_handler, in_repeat):
            self.bodies_hold((PAUSE, how((PAUSE, statement))))

    def statement_fails(self, statement):
        self.bodies_fail((statement,))
        self.bodies_fail((), (PAUSE, statement))
        for how in (in_block, in_handler, in_repeat):
            self.bodies_fail((PAUSE, how((PAUSE, statement))))


class Statements(Checked):
    """Point 4."""

    def test_each_kind_of_statement(self):
        self.bodies_hold(EACH_KIND, ())
        for statement in EACH_KIND:
            with self.subTest(statement):
                self.bodies_hold((statement,), ())

    def test_words(self):
        for word in ("x", "0", "az09", "12345678", "abcdefgh", "z" * 8, "say", "7"):
            with self.subTest(word):
                self.statement_holds(("say", word))

    def test_every_sign_of_words(self):
        for sign in "abcdefghijklmnopqrstuvwxyz0123456789":
            self.statement_holds(("say", sign))
            self.statement_holds(("say", "a" + sign + "9"))

    def test_no_words(self):
        for word in ("", "abcdefghi", "123456789", "a" * 50, "a ", " a", " ", "a b"):
            with self.subTest(word):
                self.statement_fails(("say", word))

    def test_no_other_sign_in_words(self):
        for code in range(32, 127):
            sign = chr(code)
            if not (sign.isdigit() or sign.islower()) and sign != "%":
                with self.subTest(sign):
                    self.bodies_fail((("say", sign),))
                    self.bodies_fail((("say", "ab" + sign),))
                    self.bodies_fail((("say", sign + "12"),))

    def test_variables(self):
        for variable in ("a", "b", "c", "d"):
            with self.subTest(variable):
                self.statement_holds(("wait", variable))
                self.statement_holds(("adopt", variable))
                self.bodies_hold((("start", 1, variable),), ())

    def test_no_variables(self):
        for variable in ("e", "", "A", "ab", "aa", "abcd", "1", " ", "z", "a "):
            with self.subTest(variable):
                self.statement_fails(("wait", variable))
                self.statement_fails(("adopt", variable))
                self.bodies_fail((("start", 1, variable),), ())

    def test_counts(self):
        for count in (0, 1, 2, 99, 100):
            with self.subTest(count):
                self.statement_holds(("repeat", count, ()))

    def test_no_counts(self):
        for count in (-100, -2, -1, 101, 102, 1000):
            with self.subTest(count):
                self.statement_fails(("repeat", count, ()))
                self.statement_fails(("repeat", count, (PAUSE,)))


class Bodies(Checked):
    """Points 5 and 7: how many bodies and statements, how deep the blocks."""

    def test_numbers_of_bodies(self):
        for many in range(1, 9):
            self.is_program(((),) * many)
        for many in (0, 9, 10, 20):
            self.no_program(((),) * many)

    def test_numbers_of_bodies_of_contexts(self):
        for many in range(1, 8):
            self.is_context(((),) * many)
        for many in (0, 8, 9, 20):
            self.no_context(((),) * many)

    def test_numbers_of_statements(self):
        for many in (0, 1, 39, 40):
            self.bodies_hold(pauses(many))
            self.bodies_hold((), pauses(many))
        for many in (41, 42, 80):
            self.bodies_fail(pauses(many))
            self.bodies_fail((), pauses(many))
            self.bodies_fail(pauses(many), ())

    def test_each_body_has_its_own_statements(self):
        self.bodies_hold(*(pauses(40),) * 7)

    def test_statements_in_blocks_are_counted(self):
        for how in (in_block, in_handler, in_repeat):
            with self.subTest(how.__name__):
                self.bodies_hold((how(pauses(39)),))
                self.bodies_fail((how(pauses(40)),))
                self.bodies_hold(pauses(20) + (how(pauses(19)),))
                self.bodies_fail(pauses(20) + (how(pauses(20)),))
                for inside in (in_block, in_handler, in_repeat):
                    self.bodies_hold((PAUSE, how((inside(pauses(37)),))))
                    self.bodies_fail((PAUSE, how((inside(pauses(38)),))))

    def test_block_and_handler_are_both_counted(self):
        self.bodies_hold((("try", pauses(20), pauses(19)),))
        self.bodies_fail((("try", pauses(20), pauses(20)),))

    def test_statements_that_are_never_done_are_counted(self):
        self.bodies_hold((("repeat", 0, pauses(39)),))
        self.bodies_fail((("repeat", 0, pauses(40)),))

    def test_blocks_are_at_most_two_deep(self):
        for how in WAYS:
            for depth in (0, 1, 2):
                self.bodies_hold((nested(depth, how),))
                self.bodies_hold((), (PAUSE, nested(depth, how)))
            for depth in (3, 4, 5):
                self.bodies_fail((nested(depth, how),))
                self.bodies_fail((), (PAUSE, nested(depth, how)))

    def test_blocks_of_several_kinds_in_one_another(self):
        for outer in WAYS:
            for middle in WAYS:
                self.bodies_hold((outer((middle(()),)),))
                self.bodies_hold((outer((middle((PAUSE,)),)),))
                for inner in WAYS:
                    self.bodies_fail((outer((middle((inner(()),)),)),))
                    self.bodies_fail((outer((middle((inner((PAUSE,)),)),)),))

    def test_depth_begins_anew_in_each_statement_and_body(self):
        two = ("try", (("try", (), ()), ("repeat", 1, ())), (("try", (), ()), ("repeat", 1, ())))
        self.bodies_hold((two, two), (two,))

    def test_statements_nested_a_hundred_deep_are_refused(self):
        for depth in (100, 110):
            for how in WAYS:
                deep = nested(depth, how)
                self.bodies_fail((deep,))
                self.bodies_fail((), (PAUSE, deep))
                self.bodies_fail((("try", (deep,), (deep,)),))

    def test_deep_repeats_of_a_hundred_times(self):
        deep = nested(100, lambda block: ("repeat", 100, block + block[:1]))
        self.bodies_fail((deep,))

    def test_one_wrong_statement_among_many(self):
        for at in range(10):
            body = pauses(at) + (("say", "X"),) + pauses(9 - at)
            self.bodies_fail(body)
            self.bodies_fail((), (), body, ())
            self.bodies_fail((), (("try", (), (("repeat", 0, body),)),))


class Starts(Checked):
    """Points 5 and 7: which bodies start statements name."""

    def program_with_start(self, number, body, many):
        bodies = [()] * many
        bodies[body] = (("start", number, "a"),)
        return tuple(bodies)

    def test_started_bodies_of_programs(self):
        for many in range(1, 9):
            for body in range(many):
                for number in range(-2, many + 3):
                    program = self.program_with_start(number, body, many)
                    if body < number < many:
                        self.is_program(program)
                    else:
                        self.no_program(program)

    def test_started_bodies_of_contexts(self):
        for many in range(1, 8):
            for body in range(many):
                for number in range(-2, many + 3):
                    context = self.program_with_start(number, body, many)
                    if body < number <= many:
                        self.is_context(context)
                    else:
                        self.no_context(context)

    def test_starts_in_blocks(self):
        for how in (in_block, in_handler, in_repeat):
            for number in (0, 1, 4):
                self.bodies_fail((), (how((how((("start", number, "a"),)),)),), ())
            self.bodies_hold((), (how((how((("start", 2, "a"),)),)),), ())
            self.is_context(((), (how((how((("start", 3, "a"),)),)),), ()))
            self.no_program(((), (how((how((("start", 3, "a"),)),)),), ()))

    def test_the_hole_in_a_context_is_no_body_of_a_program(self):
        bodies = ((("start", 2, "a"),), (("start", 2, "b"),))
        self.is_context(bodies)
        self.no_program(bodies)
        self.is_program(bodies + ((),))


class Sizes(Checked):
    """Point 6, and of point 5 that sizes are at most 600."""

    def size_of(self, *body):
        return body_sizes((body,))[0]

    def test_the_size_of_an_empty_body(self):
        self.assertEqual(self.size_of(), 2)

    def test_statements_of_size_one(self):
        for statement in (
            ("say", "abc"), PAUSE, ("wait", "a"), ("adopt", "a"), ("return",), ("fail",),
        ):
            with self.subTest(statement):
                self.assertEqual(self.size_of(statement), 3)
                self.assertEqual(self.size_of(statement, statement), 4)

    def test_the_size_of_try(self):
        self.assertEqual(self.size_of(("try", (), ())), 2 + 4)
        self.assertEqual(self.size_of(("try", pauses(3), ())), 2 + 7)
        self.assertEqual(self.size_of(("try", (), pauses(4))), 2 + 8)
        self.assertEqual(self.size_of(("try", pauses(3), pauses(4)), PAUSE), 2 + 11 + 1)

    def test_the_size_of_repeat(self):
        self.assertEqual(self.size_of(("repeat", 1, ())), 2 + 4)
        self.assertEqual(self.size_of(("repeat", 5, ())), 2 + 12)
        self.assertEqual(self.size_of(("repeat", 5, pauses(3))), 2 + 2 + 5 * 5)
        self.assertEqual(self.size_of(("repeat", 100, (PAUSE,))), 2 + 2 + 100 * 3)

    def test_the_size_of_a_repeat_with_the_count_zero(self):
        self.assertEqual(self.size_of(("repeat", 0, ())), 4)
        self.assertEqual(self.size_of(("repeat", 0, pauses(30))), 4)
        self.assertEqual(body_sizes(((("repeat", 0, (("start", 1, "a"),)),), (PAUSE,))), (4, 3))

    def test_the_size_of_blocks_in_blocks(self):
        inner = ("repeat", 4, pauses(2))                 # 2 + 4 * (1 + 3) = 18
        self.assertEqual(self.size_of(inner), 2 + 18)
        self.assertEqual(self.size_of(("try", (inner,), (inner, PAUSE))), 2 + 2 + 19 + 20)
        self.assertEqual(self.size_of(("repeat", 3, (inner,))), 2 + 2 + 3 * (1 + 19))
        self.assertEqual(self.size_of(("repeat", 3, (("try", (), ()),))), 2 + 2 + 3 * (1 + 5))

    def test_the_size_of_a_start(self):
        start = ("start", 1, "a")
        self.assertEqual(body_sizes(((start,), ())), (2 + 3, 2))
        self.assertEqual(body_sizes(((start,), pauses(5))), (2 + 8, 7))
        self.assertEqual(body_sizes(((start, PAUSE, start), pauses(5))), (2 + 17, 7))

    def test_a_start_within_blocks(self):
        start = ("start", 1, "a")
        self.assertEqual(body_sizes(((("repeat", 10, (start,)),), pauses(5))), (4 + 10 * 10, 7))
        self.assertEqual(body_sizes(((("try", (start,), (start,)),), pauses(5))), (2 + 20, 7))

    def test_starts_of_starts(self):
        program = (
            (("start", 1, "a"), ("start", 2, "b"), ("start", 3, "c")),
            (("start", 3, "a"), ("repeat", 2, (("start", 2, "a"),))),
            (("start", 3, "a"), PAUSE),
            (("say", "x"),),
        )
        third = 2 + 1
        second = 2 + (1 + third) + 1
        first = 2 + (1 + third) + 2 + 2 * (1 + 1 + (1 + second))
        zero = 2 + (1 + first) + (1 + second) + (1 + third)
        self.assertEqual(body_sizes(program), (zero, first, second, third))

    def test_the_sizes_are_a_tuple_of_integers_for_all_bodies(self):
        for many in range(1, 9):
            sizes = body_sizes(((),) * many)
            self.assertIs(sizes.__class__, tuple)
            self.assertEqual(sizes, (2,) * many)

    def test_sizes_of_600_and_601(self):
        fits = (("repeat", 100, (PAUSE,)), ("repeat", 98, (PAUSE,)))
        self.assertEqual(body_sizes((fits,)), (600,))
        self.is_program((fits,))
        self.no_program((fits + (PAUSE,),))
        self.is_context((fits + (PAUSE,),))

    def test_sizes_of_bodies_that_nothing_starts(self):
        fits = (("repeat", 100, (PAUSE,)), ("repeat", 98, (PAUSE,)))
        self.is_program((fits, fits, fits))
        self.no_program(((), fits + (PAUSE,), ()))
        self.no_program(((), (), fits + (PAUSE,)))
        self.is_context(((), (), fits + (PAUSE,)))

    def test_sizes_of_600_and_601_by_starts(self):
        starts = (("start", 1, "a"),) * 26
        self.assertEqual(body_sizes((starts, pauses(20))), (600, 22))
        self.is_program((starts, pauses(20)))
        self.no_program((starts + (PAUSE,), pauses(20)))
        self.no_program((starts, pauses(21)))
        self.is_context((starts, pauses(21)))

    def test_much_greater_sizes(self):
        repeats = (("repeat", 100, (("repeat", 100, pauses(9)),)),)
        self.assertEqual(body_sizes((repeats,)), (2 + 2 + 100 * (1 + 1 + 2 + 100 * 11),))
        self.no_program((repeats,))
        self.is_context((repeats,))
        starts = tuple((("start", number, "a"),) * 40 for number in range(1, 7)) + ((),)
        self.no_program(starts)
        self.is_context(starts)
        both = tuple(
            (("repeat", 100, (("repeat", 100, (("start", number, "a"),) * 38),)),)
            for number in range(1, 8)
        )
        self.no_program(both + ((),))
        self.is_context(both)


class Frames(Checked):
    """Point 19."""

    def frame(self, many, *body):
        """A frame of so many bodies with this body 0."""
        return (body,) + ((),) * (many - 1)

    def test_numbers_of_bodies_of_frames(self):
        for many in (1, 2, 3, 4):
            self.is_frame(self.frame(many, ("start", many, "a")))
        for many in (5, 6, 7):
            self.no_frame(self.frame(many, ("start", many, "a")))

    def test_sizes_of_20_and_21(self):
        hole = ("start", 1, "a")
        self.assertEqual(body_sizes(((hole,),)), (3,))
        self.is_frame(((hole,) + pauses(17),))
        self.no_frame(((hole,) + pauses(18),))
        self.is_frame(((("try", (hole,), pauses(13)),),))
        self.no_frame(((("try", (hole,), pauses(14)),),))

    def test_sizes_of_other_bodies_of_frames(self):
        hole = ("start", 2, "a")
        self.is_frame(((hole,), pauses(18)))
        self.no_frame(((hole,), pauses(19)))
        self.is_frame(((hole, ("start", 1, "b")), pauses(14)))
        self.no_frame(((hole, ("start", 1, "b")), pauses(15)))
        self.is_frame(((hole,), (("repeat", 5, (PAUSE,)), PAUSE)))
        self.no_frame(((hole,), (("repeat", 5, (PAUSE,)), PAUSE, PAUSE)))

    def test_none_one_and_two_statements_that_start_the_hole(self):
        hole = ("start", 1, "a")
        self.no_frame(((),))
        self.no_frame((pauses(3),))
        self.no_frame(((("start", 1, "a"),), ()))
        self.is_frame(((PAUSE, hole, PAUSE),))
        self.no_frame(((hole, hole),))
        self.no_frame(((hole, ("start", 1, "b")),))
        self.no_frame(((("try", (hole,), (hole,)),),))
        self.no_frame(((hole, ("try", (), (hole,))),))

    def test_the_hole_in_another_body(self):
        self.no_frame(((("start", 1, "a"),), (("start", 2, "a"),)))
        self.no_frame(((), (("start", 2, "a"),)))
        self.no_frame(((("start", 2, "a"),), (("start", 2, "a"),)))
        self.no_frame(((("start", 2, "a"),), (("try", (), (("repeat", 0, (("start", 2, "a"),)),)),)))
        self.is_frame(((("start", 2, "a"), ("start", 1, "b")), (PAUSE,)))

    def test_the_hole_in_blocks(self):
        hole = ("start", 1, "d")
        self.is_frame(((("try", (hole,), ()),),))
        self.is_frame(((("try", (), (hole,)),),))
        self.is_frame(((("try", (), (("try", (hole,), ()),)),),))
        self.is_frame(((("try", (("try", (), (hole,)),), ()),),))

    def test_the_hole_in_repeats(self):
        hole = ("start", 1, "d")
        for count in (0, 1, 2):
            repeat = ("repeat", count, (hole,))
            self.no_frame(((repeat,),))
            self.no_frame(((hole, repeat),))
            self.no_frame(((("try", (repeat,), ()),),))
            self.no_frame(((("try", (), (repeat,)),),))
            self.no_frame(((("repeat", count, (("try", (hole,), ()),)),),))
            self.no_frame(((("repeat", count, (("repeat", 1, (hole,)),)),),))

    def test_repeats_without_the_hole(self):
        self.is_frame(((("repeat", 2, (PAUSE,)), ("start", 1, "a"), ("repeat", 0, ())),))
        repeat = ("repeat", 2, (("start", 1, "a"),))
        self.is_frame(((repeat, ("start", 2, "a"), ("repeat", 0, (PAUSE,))), ()))

    def test_what_is_no_context_is_refused_as_such(self):
        self.no_context(())
        self.no_context((pauses(41),))
        self.no_context(((("say", ""),) * 30,))
        self.no_context(((("start", 2, "a"),) * 2,))
        self.no_context(((), (("start", 1, "a"),) * 2))
        self.no_context(((("start", 8, "a"),) * 2,) + ((),) * 7)


class Places(unittest.TestCase):
    """Point 16: which places there are."""

    PROGRAM = (
        (
            ("say", "x"),
            ("try", (PAUSE, ("repeat", 2, (PAUSE, PAUSE))), (("try", (), (PAUSE,)),)),
            ("return",),
        ),
        (),
        (PAUSE,),
    )

    def is_place(self, body, statement):
        self.assertIsNone(check_place(self.PROGRAM, body, statement))

    def no_place(self, body, statement):
        with self.assertRaises(TickError) as caught:
            check_place(self.PROGRAM, body, statement)
        self.assertIs(caught.exception.__class__, NoSuchPlace)

    def test_all_statements_and_the_end_are_places(self):
        for body, many in ((0, 9), (1, 0), (2, 1)):
            for statement in range(many + 1):
                self.is_place(body, statement)
            for statement in (-3, -2, -1, many + 1, many + 2, many + 100):
                self.no_place(body, statement)

    def test_bodies_that_there_are_not(self):
        for body in (-4, -3, -2, -1, 3, 4, 100):
            for statement in (-1, 0, 1):
                self.no_place(body, statement)

    def test_the_program_of_one_empty_body(self):
        self.assertIsNone(check_place(((),), 0, 0))
        for body, statement in ((0, 1), (0, -1), (-1, 0), (1, 0)):
            with self.assertRaises(NoSuchPlace):
                check_place(((),), body, statement)

    def test_statements_that_are_never_done_are_places(self):
        program = ((("return",), ("repeat", 0, (PAUSE, PAUSE))),)
        self.assertIsNone(check_place(program, 0, 4))
        with self.assertRaises(NoSuchPlace):
            check_place(program, 0, 5)

    def test_a_started_body_adds_no_places(self):
        program = ((("start", 1, "a"),), pauses(5))
        self.assertIsNone(check_place(program, 0, 1))
        with self.assertRaises(NoSuchPlace):
            check_place(program, 0, 2)


class Interface(unittest.TestCase):
    """The names and arguments, and point 3."""

    def test_the_functions_are_defined_here_with_these_arguments(self):
        for name, arguments in (
            ("check_program", ["program"]), ("check_context", ["context"]),
            ("check_frame", ["frame"]), ("body_sizes", ["program"]),
            ("check_place", ["program", "body", "statement"]),
        ):
            with self.subTest(name):
                function = getattr(programs, name)
                self.assertEqual(function.__module__, "sameticks.programs")
                self.assertEqual(list(inspect.signature(function).parameters), arguments)

    def test_arguments_can_be_named(self):
        program = ((PAUSE,),)
        self.assertIsNone(check_program(program=program))
        self.assertIsNone(check_context(context=program))
        self.assertIsNone(check_frame(frame=((("start", 1, "a"),),)))
        self.assertIsNone(check_place(program=program, body=0, statement=1))
        self.assertEqual(body_sizes(program=program), (3,))

    def test_arguments_are_not_modified(self):
        program = (EACH_KIND, (("try", (PAUSE,), (("repeat", 2, (PAUSE,)),)),))
        before = repr(program)
        for _ in range(2):
            check_program(program)
            check_context(program)
            with self.assertRaises(BadFrame):
                check_frame(program)
            check_place(program, 1, 4)
            self.assertEqual(body_sizes(program), (36, 15))
        self.assertEqual(repr(program), before)


if __name__ == "__main__":
    unittest.main()
