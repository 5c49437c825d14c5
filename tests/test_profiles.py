"""Profiles: points 11 to 14."""

import inspect
import itertools
import unittest

import reference
from sameticks import profiles
from sameticks.errors import NoSuchProfile, TickError
from sameticks.profiles import are_alike, is_profile, profile_of, standard_program
from sameticks.programs import check_program
from sameticks.tasks import run_program
from sameticks.texts import program_of, text_of

PAUSE = ("pause",)


def told(text):
    return profile_of(program_of(text))


def small_profiles():
    """All profiles with few ticks and words."""
    words = ((), ("x",), ("y",), ("x", "y"))
    for many in range(4):
        for ticks in itertools.product(words, repeat=many):
            if many > 0 and ticks[-1] == ():
                continue
            for settled in range(5):
                behind = ticks[settled + 1:]
                counts = [range(len(part) + 1) if settled > 1 else (len(part),) for part in behind]
                for before in itertools.product(*counts):
                    for returned in (True, False):
                        yield (ticks, settled, returned, before)


class Profiles(unittest.TestCase):
    """Point 11."""

    def test_the_examples_of_the_interface(self):
        self.assertEqual(told("start 1 a wait a ; say x"), ((("x",),), 1, True, ()))
        self.assertEqual(told("start 1 a adopt a ; say x"), ((("x",),), 2, True, ()))

    def test_the_example_of_point_2(self):
        self.assertEqual(told("start 1 a wait a ; say x pause say y"), ((("x",), ("y",)), 2, True, ()))
        self.assertEqual(told("start 1 a adopt a ; say x pause say y"), ((("x",), ("y",)), 2, True, ()))

    def test_silent_programs(self):
        self.assertEqual(told(""), ((), 0, True, ()))
        self.assertEqual(told("fail"), ((), 0, False, ()))
        self.assertEqual(told("repeat 7 { pause }"), ((), 7, True, ()))
        self.assertEqual(told("start 1 a ; repeat 7 { pause }"), ((), 0, True, ()))
        self.assertEqual(told("start 1 a wait a ; repeat 7 { pause }"), ((), 8, True, ()))

    def test_ticks_have_the_words_of_all_tasks_in_order(self):
        self.assertEqual(
            told("start 1 a say y pause say y ; say x pause say x")[0], (("x", "y"), ("x", "y"))
        )

    def test_ticks_with_no_words(self):
        self.assertEqual(told("pause pause say x")[0], ((), (), ("x",)))
        self.assertEqual(told("say x pause pause say y")[0], (("x",), (), ("y",)))

    def test_ticks_end_with_the_last_one_in_which_any_is_said(self):
        self.assertEqual(told("say x repeat 9 { pause }"), ((("x",),), 9, True, ()))
        self.assertEqual(told("start 1 a pause say x ; repeat 9 { pause }"), (((), ("x",)), 1, True, ()))

    def test_settled_and_returned(self):
        self.assertEqual(told("pause fail")[1:3], (1, False))
        self.assertEqual(told("pause return")[1:3], (1, True))
        self.assertEqual(told("start 1 a pause ; pause pause fail")[1:3], (1, True))
        self.assertEqual(told("start 1 a wait a ; pause pause fail")[1:3], (3, False))
        self.assertEqual(told("start 1 a adopt a ; fail")[1:3], (2, False))

    def test_the_other_tasks_are_not_asked(self):
        self.assertEqual(told("start 1 a start 2 a ; fail ; pause pause fail")[1:3], (0, True))

    def test_before_is_told_for_ticks_behind_settled_only(self):
        self.assertEqual(told("say x pause say y pause say z")[3], ())
        self.assertEqual(told("start 1 a pause ; repeat 3 { pause } say x"), (((), (), (), ("x",)), 1, True, (0, 1)))

    def test_settled_in_tick_0(self):
        text = "start 1 a say z ; say x pause say x say y pause pause say x"
        self.assertEqual(told(text), ((("x", "z"), ("x", "y"), (), ("x",)), 0, True, (2, 0, 1)))

    def test_settled_in_tick_1(self):
        text = "start 1 a pause start 2 a fail ; pause pause say x pause say x ; pause say y pause say z"
        self.assertEqual(told(text), (((), (), ("x", "y"), ("x", "z")), 1, False, (2, 2)))

    def test_settled_in_tick_2_and_later(self):
        speaking = " ; repeat 3 { pause } say x pause say y say x ; pause"
        for starts, ticks, before in (
            ("start 1 a start 2 b", (("x",), ("y", "x")), (1, 2)),
            ("start 2 b start 1 a", (("x",), ("y", "x")), (0, 0)),
            ("start 1 a start 2 b start 1 a", (("x", "x"), ("y", "x", "y", "x")), (1, 2)),
            ("start 1 a start 1 a start 2 b start 1 a", (("x",) * 3, ("y", "x") * 3), (2, 4)),
        ):
            with self.subTest(starts):
                self.assertEqual(told(starts + " wait b" + speaking), (((), (), (), *ticks), 2, True, before))
                self.assertEqual(
                    told(starts + " wait b pause fail" + speaking), (((), (), (), *ticks), 3, False, before[1:])
                )
                self.assertEqual(
                    told(starts + " wait b pause pause" + speaking), (((), (), (), *ticks), 4, True, ())
                )

    def test_what_task_0_starts_before_it_is_settled_is_ahead_of_the_place(self):
        self.assertEqual(
            told("start 2 b wait b start 1 a ; pause pause say x ; pause"),
            (((), (), (), (), ("x",)), 2, True, (0, 1)),
        )

    def test_what_others_start_later_is_where_they_are(self):
        self.assertEqual(
            told("start 1 b start 2 c wait b ; pause ; pause pause start 3 d start 3 d ; pause say x"),
            (((), (), (), ("x", "x")), 2, True, (0,)),
        )
        self.assertEqual(
            told("start 2 c start 1 b wait b ; pause ; pause pause start 3 d start 3 d ; pause say x"),
            (((), (), (), ("x", "x")), 2, True, (2,)),
        )

    def test_what_only_the_place_tells(self):
        one = told("start 1 a start 2 b wait b ; repeat 3 { pause } say x ; pause")
        other = told("start 2 b start 1 a wait b ; repeat 3 { pause } say x ; pause")
        self.assertEqual(one, (((), (), (), ("x",)), 2, True, (1,)))
        self.assertEqual(other, (((), (), (), ("x",)), 2, True, (0,)))

    def test_many_programs_by_the_words_of_the_point(self):
        for seed, weights in ((1, (6, 5, 6, 5, 1, 0.3, 0.7, 2, 1)), (2, (5, 5, 9, 5, 3, 1, 3, 3, 2))):
            made = reference.Programs(seed, 2, weights)
            for _ in range(1000):
                program = made.program(made.random.randint(1, 5), made.random.randint(1, 9))
                self.assertEqual(profile_of(program), reference.profile(program), program)

    def test_programs_of_size_600_and_greater(self):
        fits = (("repeat", 100, (PAUSE,)), ("repeat", 97, (PAUSE,)), PAUSE, ("say", "x"), ("fail",))
        check_program((fits,))
        self.assertEqual(profile_of((fits,)), (((),) * 198 + (("x",),), 198, False, ()))
        greater = ((("start", 1, "a"), ("repeat", 500, (PAUSE,))), (("repeat", 1000, (("say", "x"), PAUSE)),))
        self.assertEqual(profile_of(greater), ((("x",),) * 1000, 500, True, (1,) * 499))

    def test_eight_bodies(self):
        text = "".join(f"start {number} a wait a ; " for number in range(1, 8)) + "say x pause fail"
        self.assertEqual(told(text), ((("x",),), 8, False, ()))


class Alike(unittest.TestCase):
    """Point 12."""

    def alike(self, one, other):
        self.assertIs(are_alike(program_of(one), program_of(other)), True)
        self.assertIs(are_alike(program_of(other), program_of(one)), True)

    def unlike(self, one, other):
        self.assertIs(are_alike(program_of(one), program_of(other)), False)
        self.assertIs(are_alike(program_of(other), program_of(one)), False)

    def test_the_example_of_point_2(self):
        self.alike("start 1 a wait a ; say x pause say y", "start 1 a adopt a ; say x pause say y")
        self.unlike("start 1 a wait a ; say x", "start 1 a adopt a ; say x")

    def test_programs_that_are_alike(self):
        self.alike("", "return")
        self.alike("", "repeat 0 { say x } ; say y")
        self.alike("say x pause", "say x wait a")
        self.alike("say x", "start 1 a ; say x pause pause")
        self.alike("start 1 a wait a ; fail", "pause fail")

    def test_programs_that_are_not(self):
        self.unlike("", "pause")
        self.unlike("", "fail")
        self.unlike("say x", "say y")
        self.unlike("say x", "say x say x")
        self.unlike("say x pause", "pause say x")
        self.unlike("say x start 1 a ; pause say y", "say x pause say y")
        self.unlike(
            "start 1 a start 2 b wait b ; repeat 3 { pause } say x ; pause",
            "start 2 b start 1 a wait b ; repeat 3 { pause } say x ; pause",
        )

    def test_alike_programs_say_the_same_in_all_contexts(self):
        made = reference.Programs(3)
        contexts = [made.context(made.random.randint(1, 3), 8) for _ in range(40)]
        groups = {}
        for _ in range(4000):
            program = made.program(made.random.randint(1, 3), 4)
            groups.setdefault(reference.profile(program), []).append(program)
        pairs = [(group[0], other) for group in groups.values() for other in group[1:4]]
        self.assertGreater(len(pairs), 200)
        for one, other in pairs:
            self.assertIs(are_alike(one, other), True)
            for context in contexts:
                self.assertEqual(
                    reference.words(reference.put(context, one)), reference.words(reference.put(context, other)),
                    (context, one, other),
                )

    def test_equal_exactly_if_their_profiles_are(self):
        made = reference.Programs(4, 1)
        programs = [made.program(made.random.randint(1, 3), 4) for _ in range(60)]
        for one, other in itertools.product(programs, repeat=2):
            self.assertIs(are_alike(one, other), reference.profile(one) == reference.profile(other))


class Which(unittest.TestCase):
    """Point 13."""

    def test_all_small_profiles(self):
        for profile in small_profiles():
            self.assertIs(is_profile(profile), True, profile)
            self.assertEqual(reference.profile(standard_program(profile)), profile)

    def test_profiles_of_programs(self):
        made = reference.Programs(5, 2, (5, 5, 9, 5, 3, 1, 3, 3, 2))
        for _ in range(1000):
            self.assertIs(is_profile(profile_of(made.program(made.random.randint(1, 5), 8))), True)

    def no_profile(self, ticks, settled, before):
        for returned in (True, False):
            profile = (ticks, settled, returned, before)
            self.assertIs(is_profile(profile), False, profile)
            with self.assertRaises(TickError) as caught:
                standard_program(profile)
            self.assertIs(caught.exception.__class__, NoSuchProfile)

    def test_the_last_of_ticks_is_empty(self):
        self.no_profile(((),), 0, ())
        self.no_profile(((), ()), 5, ())
        self.no_profile((("x",), ()), 0, (0,))
        self.no_profile((("x",), ("x",), ()), 2, ())

    def test_one_number_for_each_tick_behind_settled(self):
        ticks = (("x",),) * 5
        for settled in range(8):
            for many in range(8):
                if many == max(0, 4 - settled):
                    self.assertIs(is_profile((ticks, settled, True, (1,) * many)), True)
                else:
                    self.no_profile(ticks, settled, (1,) * many)
        self.no_profile((), 0, (0,))
        self.no_profile((), 3, (0,))

    def test_numbers_from_0_to_the_number_of_words(self):
        ticks = ((), (), (), ("x", "y"), (), ("x",))
        for first, second, third in itertools.product(range(-2, 5), range(-2, 3), range(-2, 4)):
            if 0 <= first <= 2 and second == 0 and 0 <= third <= 1:
                self.assertIs(is_profile((ticks, 2, True, (first, second, third))), True)
            else:
                self.no_profile(ticks, 2, (first, second, third))

    def test_settled_in_tick_0_or_1(self):
        ticks = (("x",), ("x", "y"), ("x",))
        for first, second in itertools.product(range(-1, 4), range(-1, 3)):
            if (first, second) == (2, 1):
                self.assertIs(is_profile((ticks, 0, False, (first, second))), True)
            else:
                self.no_profile(ticks, 0, (first, second))
        self.assertIs(is_profile((ticks, 1, False, (1,))), True)
        for count in (-1, 0, 2):
            self.no_profile(ticks, 1, (count,))
        self.assertIs(is_profile((ticks, 2, False, ())), True)

    def test_settled_below_0(self):
        self.no_profile((), -1, ())
        self.no_profile((("x",),), -1, (1,))
        self.no_profile((("x",), ("x",)), -2, (1,))

    def test_settled_behind_all_ticks(self):
        for settled in (0, 1, 2, 3, 1300, 1301):
            self.assertIs(is_profile(((), settled, True, ())), True)
            self.assertIs(is_profile(((("x",),), settled, True, ())), True)


class Standard(unittest.TestCase):
    """Point 14."""

    def is_text(self, profile, text):
        self.assertEqual(text_of(standard_program(profile)), text)

    def test_settled_in_tick_0(self):
        self.is_text(
            ((), 0, True, ()),
            "start 1 a return ; repeat 0 { pause } ; pause ; repeat 0 { pause }",
        )
        self.is_text(
            ((("x", "y"),), 0, False, ()),
            "say x say y start 1 a fail ; repeat 0 { pause } ; pause ; repeat 0 { pause }",
        )
        self.is_text(
            ((("x",), ("y", "z"), (), ("u",)), 0, True, (2, 0, 1)),
            "say x start 1 a return ; repeat 0 { pause } pause say y say z pause pause say u"
            " ; pause say y say z ; repeat 0 { pause } pause pause pause",
        )

    def test_settled_in_tick_1(self):
        self.is_text(
            ((), 1, True, ()),
            "start 1 a pause return ; repeat 1 { pause } ; pause ; repeat 1 { pause }",
        )
        self.is_text(
            ((("x",), ("y",), ("z", "u")), 1, False, (2,)),
            "say x start 1 a pause say y fail ; repeat 1 { pause } pause say z say u"
            " ; pause say y ; repeat 1 { pause } pause",
        )

    def test_settled_in_tick_2(self):
        self.is_text(
            ((), 2, True, ()),
            "start 1 a start 2 b start 3 c wait b return ; repeat 2 { pause } ; pause ; repeat 2 { pause }",
        )
        self.is_text(
            ((("x",), ("y",), ("z",), ("u", "v", "w"), ("x", "y")), 2, True, (1, 2)),
            "say x start 1 a start 2 b start 3 c wait b say z return ; repeat 2 { pause } pause say u pause say x say y"
            " ; pause say y ; repeat 2 { pause } pause say v say w pause",
        )

    def test_settled_later(self):
        self.is_text(
            ((), 4, False, ()),
            "start 1 a start 2 b start 3 c wait b pause pause fail"
            " ; repeat 4 { pause } ; pause ; repeat 4 { pause }",
        )
        self.is_text(
            (((), ("x",), (), ("y",), ("z",), ("u",)), 4, True, (0,)),
            "start 1 a start 2 b start 3 c wait b pause say y pause say z return"
            " ; repeat 4 { pause } pause ; pause say x ; repeat 4 { pause } pause say u",
        )

    def test_it_has_this_profile(self):
        for profile in small_profiles():
            self.assertEqual(profile_of(standard_program(profile)), profile)

    def test_it_is_like_the_program_of_the_profile_in_contexts(self):
        made = reference.Programs(6, 2, (6, 5, 9, 5, 3, 1, 2, 2, 2))
        for _ in range(300):
            program = made.program(made.random.randint(1, 4), 8)
            context = made.context(made.random.randint(1, 3), 8)
            self.assertEqual(
                reference.words(reference.put(context, program)),
                reference.words(reference.put(context, standard_program(profile_of(program)))),
                (context, program),
            )

    def test_1300_ticks_with_1300_words(self):
        for settled in (0, 1, 2, 3, 700, 1298, 1299, 1300):
            words = [(("x", "y", "z")[tick - 2 * (tick // 2)],) for tick in range(1300)]
            before = [1 if settled < 2 or tick - 3 * (tick // 3) > 0 else 0 for tick in range(settled + 1, 1300)]
            profile = (tuple(words), settled, settled > 3, tuple(before))
            self.assertIs(is_profile(profile), True)
            self.assertEqual(profile_of(standard_program(profile)), profile)

    def test_1300_words_in_one_tick(self):
        for settled in (0, 2, 5):
            profile = (((),) * 9 + (("x",) * 1300,), settled, True, ((0,) * (8 - settled)) + (1300,))
            self.assertEqual(profile_of(standard_program(profile)), profile)
        profile = (((),) * 9 + (("x",) * 1300,), 5, True, (0, 0, 0, 700))
        self.assertEqual(profile_of(standard_program(profile)), profile)

    def test_silent_for_1300_ticks(self):
        profile = ((), 1300, False, ())
        self.assertEqual(profile_of(standard_program(profile)), profile)
        profile = (((),) * 1299 + (("x",),), 2, False, (0,) * 1297)
        self.assertEqual(profile_of(standard_program(profile)), profile)


class Interface(unittest.TestCase):
    """The names and arguments, and point 3."""

    def test_the_functions_are_defined_here_with_these_arguments(self):
        for name, arguments in (
            ("profile_of", ["program"]), ("is_profile", ["profile"]), ("standard_program", ["profile"]),
            ("are_alike", ["one", "other"]),
        ):
            function = getattr(profiles, name)
            self.assertEqual(function.__module__, "sameticks.profiles")
            self.assertEqual(list(inspect.signature(function).parameters), arguments)

    def test_kinds_of_values(self):
        profile = profile_of(program=program_of("start 1 a pause pause ; say x repeat 4 { pause } say y"))
        self.assertEqual(profile, ((("x",), (), (), (), ("y",)), 2, True, (0, 1)))
        for part in (profile, profile[0], profile[0][0], profile[0][1], profile[3]):
            self.assertIs(part.__class__, tuple)
        self.assertIs(profile[2], True)
        program = standard_program(profile=profile)
        for body in program:
            self.assertIs(body.__class__, tuple)
            for statement in body:
                self.assertIs(statement.__class__, tuple)
        self.assertEqual(len(program), 4)
        self.assertIs(are_alike(one=program, other=program), True)

    def test_arguments_are_not_modified(self):
        program = program_of("start 1 a try { wait a } catch { say x } ; pause fail")
        profile = profile_of(program)
        before = (repr(program), repr(profile))
        is_profile(profile)
        standard_program(profile)
        are_alike(program, program)
        run_program(program)
        self.assertEqual((repr(program), repr(profile)), before)
        self.assertEqual(profile_of(program), profile)


if __name__ == "__main__":
    unittest.main()
