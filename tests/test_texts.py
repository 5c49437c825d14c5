"""Texts of programs: points 28 and 29."""

import inspect
import itertools
import unittest

from sameticks import texts
from sameticks.errors import BadProgram, FaultyText, TickError
from sameticks.texts import program_of, text_of

PAUSE = ("pause",)

# The text of each kind of statement, and the statement. Where one is started, body 1 has to be there.
STATEMENTS = (
    ("say x", ("say", "x")),
    ("say az09", ("say", "az09")),
    ("pause", PAUSE),
    ("start 1 a", ("start", 1, "a")),
    ("wait b", ("wait", "b")),
    ("adopt c", ("adopt", "c")),
    ("return", ("return",)),
    ("fail", ("fail",)),
    ("try { } catch { }", ("try", (), ())),
    ("try { pause say x } catch { fail }", ("try", (PAUSE, ("say", "x")), (("fail",),))),
    ("repeat 0 { }", ("repeat", 0, ())),
    ("repeat 100 { pause wait d }", ("repeat", 100, (PAUSE, ("wait", "d")))),
    (
        "repeat 2 { try { } catch { pause } return }",
        ("repeat", 2, (("try", (), (PAUSE,)), ("return",))),
    ),
)

PROGRAMS = (
    ((),),
    ((), ()),
    ((), (), (), ()),
    ((("say", "a"),), (("try", (("fail",),), (("adopt", "d"),)),)),
    ((("start", 1, "a"), ("wait", "a")), (("say", "x"),)),
    ((("start", 7, "d"),),) + ((),) * 7,
    (
        (("repeat", 10, (("repeat", 0, ()), ("start", 2, "c"), ("try", (), ()))), ("return",)),
        (("try", (("repeat", 100, ()),), (("try", (PAUSE,), (("say", "say"),)),)), ("fail",)),
        (("say", "pause"), ("say", "7"), ("say", "00000000"), ("adopt", "b")),
    ),
    ((PAUSE,) * 40,) * 8,
)

# Tokens that can stand somewhere, tokens that look like them, and tokens that stand nowhere.
TOKENS = (
    "say", "pause", "start", "wait", "adopt", "return", "fail", "try", "repeat", "catch",
    "{", "}", ";", "x", "a", "d", "e", "0", "1", "7", "8", "100", "101", "00", "01", "abcdefghi", "A", "-1",
)

NEEDED = {
    "say": ("word",), "pause": (), "start": ("body", "variable"), "wait": ("variable",),
    "adopt": ("variable",), "return": (), "fail": (),
    "try": ("{", "block", "catch", "{", "block"), "repeat": ("count", "{", "block"),
}


def fits(token, need):
    """Whether a token is what is needed, where that is one token."""
    if need == "word":
        signs = "abcdefghijklmnopqrstuvwxyz0123456789"
        return 1 <= len(token) <= 8 and not token.strip(signs)
    if need == "variable":
        return token in ("a", "b", "c", "d")
    if need == "body":
        return token in ("0", "1", "2", "3", "4", "5", "6", "7")
    if need == "count":
        return token in [str(count) for count in range(101)]
    return token == need


def fault_in(tokens):
    """The number of the token at fault, or None: worked out with a list of all that is still needed."""
    needed = ["body of a program"]
    for number, token in enumerate(tokens, 1):
        need = needed[-1]
        if need in ("block", "body of a program"):
            if token in NEEDED:
                needed.extend(reversed(NEEDED[token]))
            elif need == "block" and token == "}":
                needed.pop()
            elif need == "block" or token != ";":
                return number
        elif fits(token, need):
            needed.pop()
        else:
            return number
    return None if len(needed) == 1 else len(tokens) + 1


class Checked(unittest.TestCase):

    def faulty(self, text, token):
        with self.subTest(text[:80]):
            with self.assertRaises(TickError) as caught:
                program_of(text)
            self.assertIs(caught.exception.__class__, FaultyText)
            self.assertEqual(caught.exception.token, token)

    def tells_no_program(self, text):
        with self.subTest(text[:80]):
            with self.assertRaises(TickError) as caught:
                program_of(text)
            self.assertIs(caught.exception.__class__, BadProgram)

    def tells(self, text, program):
        with self.subTest(text[:80]):
            self.assertEqual(program_of(text), program)

    def judged_rightly(self, tokens):
        """Refused with FaultyText at the right token, or not refused with FaultyText."""
        fault = fault_in(tokens)
        try:
            program_of(" ".join(tokens))
            told = None
        except FaultyText as error:
            told = error.token
        except BadProgram:
            told = None
        self.assertEqual(told, fault, tokens)


class Writing(Checked):
    """Point 28."""

    def test_each_kind_of_statement(self):
        for text, statement in STATEMENTS:
            self.assertEqual(text_of(((statement,), ())), text + " ;")

    def test_several_statements(self):
        text = " ".join([text for text, _ in STATEMENTS])
        self.assertEqual(text_of((tuple([told for _, told in STATEMENTS]), ())), text + " ;")

    def test_bodies_are_separated_by_semicolons(self):
        self.assertEqual(text_of(((),)), "")
        self.assertEqual(text_of(((), ())), ";")
        self.assertEqual(text_of(((), (), ())), "; ;")
        self.assertEqual(text_of(((PAUSE,),)), "pause")
        self.assertEqual(text_of(((PAUSE,), ())), "pause ;")
        self.assertEqual(text_of(((), (PAUSE,))), "; pause")
        self.assertEqual(text_of(((PAUSE,), (), (("fail",), PAUSE))), "pause ; ; fail pause")

    def test_blocks_in_blocks(self):
        inner = ("try", (PAUSE,), ())
        program = ((("try", (inner, ("repeat", 3, (("say", "x"),))), (inner,)), PAUSE),)
        self.assertEqual(
            text_of(program),
            "try { try { pause } catch { } repeat 3 { say x } } catch { try { pause } catch { } } pause",
        )

    def test_all_numbers(self):
        for count in range(101):
            self.assertEqual(text_of(((("repeat", count, ()),),)), f"repeat {count} {{ }}")
        for body in range(1, 8):
            self.assertEqual(
                text_of(((("start", body, "b"),),) + ((),) * 7), f"start {body} b ; ; ; ; ; ; ;"
            )

    def test_the_text_is_a_string_of_the_allowed_signs(self):
        for program in PROGRAMS:
            text = text_of(program)
            self.assertIs(text.__class__, str)
            self.assertTrue(text.isascii() and text.isprintable() or text == "")
            self.assertNotIn("%", text)
            self.assertNotIn("  ", text)
            self.assertEqual(text.strip(), text)


class Reading(Checked):
    """Point 29: texts of programs."""

    def test_the_text_without_tokens(self):
        for text in ("", " ", "     ", " " * 1000):
            self.tells(text, ((),))

    def test_semicolons_alone(self):
        for many in range(1, 8):
            self.tells(";" * many, ((),) * (many + 1))
            self.tells(" ; " * many, ((),) * (many + 1))

    def test_each_kind_of_statement(self):
        for text, statement in STATEMENTS:
            self.tells(text + " ;", ((statement,), ()))
            self.tells("pause " + text + " fail ; pause", ((PAUSE, statement, ("fail",)), (PAUSE,)))

    def test_statements_in_blocks(self):
        for text, statement in STATEMENTS[:-1]:
            self.tells(f"repeat 0 {{ {text} }} ;", ((("repeat", 0, (statement,)),), ()))
            self.tells(f"try {{ {text} }} catch {{ }} ;", ((("try", (statement,), ()),), ()))
            self.tells(f"try {{ }} catch {{ {text} }} ;", ((("try", (), (statement,)),), ()))

    def test_the_examples_of_the_interface(self):
        self.tells(
            "say a;try{fail}catch{adopt d}",
            ((("say", "a"),), (("try", (("fail",),), (("adopt", "d"),)),)),
        )
        self.tells("start 1 a wait a ; say x", ((("start", 1, "a"), ("wait", "a")), (("say", "x"),)))
        self.tells("start 1 a adopt a ; say x", ((("start", 1, "a"), ("adopt", "a")), (("say", "x"),)))

    def test_blanks(self):
        program = ((("try", (PAUSE,), (("say", "x"),)), ("repeat", 1, ())), (PAUSE,))
        for text in (
            "try { pause } catch { say x } repeat 1 { } ; pause",
            "try{pause}catch{say x}repeat 1{};pause",
            "   try  {  pause  }  catch  {  say   x  }  repeat    1  {  }  ;  pause   ",
            " try{ pause }catch {say x} repeat 1 {};pause ",
            "try {pause} catch {say x}repeat 1 { };     pause",
        ):
            self.tells(text, program)

    def test_blanks_are_needed_between_two_pieces(self):
        self.faulty("sayx", 1)
        self.faulty("pausepause", 1)
        self.faulty("waita", 1)
        self.faulty("start1 a", 1)
        self.faulty("start 1a", 2)
        self.faulty("repeat3{}", 1)
        self.faulty("pause try{}catch{}pausefail", 8)

    def test_words_that_look_like_other_tokens(self):
        for word in (
            "say", "pause", "start", "wait", "adopt", "return", "fail", "try", "catch", "repeat",
            "a", "d", "7", "0", "00", "007", "100", "101", "12345678",
        ):
            self.tells("say " + word, ((("say", word),),))
            self.tells(f"say {word} say {word}", ((("say", word), ("say", word)),))

    def test_every_sign_of_words(self):
        for sign in "abcdefghijklmnopqrstuvwxyz0123456789":
            for word in (sign, "a" + sign + "9", sign * 8):
                self.tells("say " + word, ((("say", word),),))
                self.assertEqual(text_of(((("say", word),),)), "say " + word)

    def test_no_other_sign_in_words(self):
        for code in range(33, 127):
            sign = chr(code)
            if not (sign.isdigit() or sign.islower()) and sign not in "{};%":
                self.faulty("say " + sign, 2)
                self.faulty("say ab" + sign + "12", 2)

    def test_all_numbers(self):
        for count in range(101):
            self.tells(f"repeat {count} {{ }}", ((("repeat", count, ()),),))
        for body in range(1, 8):
            self.tells(f"start {body} b;;;;;;;", ((("start", body, "b"),),) + ((),) * 7)

    def test_the_program_of_the_text_of_a_program(self):
        for program in PROGRAMS:
            self.tells(text_of(program), program)

    def test_the_text_of_the_program_of_a_text(self):
        for program in PROGRAMS:
            text = text_of(program)
            self.assertEqual(text_of(program_of("  " + text.replace(" ", "   "))), text)
            tight = text.replace(" ;", ";").replace("; ", ";").replace(" {", "{").replace("} ", "}")
            self.assertEqual(text_of(program_of(tight)), text)


class Faults(Checked):
    """Point 29: texts that are none, and the number of the token at fault."""

    def test_wrong_first_tokens(self):
        for token in TOKENS:
            if token not in NEEDED and token != ";":
                self.faulty(token, 1)
                self.faulty(token + " pause", 1)
                self.faulty("pause " + token, 2)
                self.faulty(";" + token + " pause", 2)

    def test_wrong_words(self):
        for word in ("abcdefghi", "123456789", "A", "aB", "a-b", "-1", "_", "a.b", "x,", "a" * 5000):
            self.faulty("say " + word, 2)
            self.faulty(f"pause say {word} say {word}", 3)
        for token in ("{", "}", ";"):
            self.faulty("say " + token, 2)
            self.faulty(f"say{token}x", 2)

    def test_wrong_variables(self):
        for variable in ("e", "A", "ab", "aa", "abcd", "1", "wait", "{", "}", ";"):
            self.faulty("wait " + variable, 2)
            self.faulty("adopt " + variable + " pause", 2)
            self.faulty("start 1 " + variable + " ;", 3)

    def test_wrong_numbers(self):
        for number in ("00", "01", "07", "000", "-1", "-0", "+1", "1_0", "1.0", "a", "x", "{", ";", "9" * 5000):
            self.faulty(f"start {number} a ;", 2)
            self.faulty(f"repeat {number} {{ }}", 2)
        for number in ("8", "9", "10", "17", "70", "100"):
            self.faulty(f"start {number} a ;;;;;;;", 2)
        for number in ("101", "102", "110", "200", "999", "1000", "010", "0100", "100000000000000000000"):
            self.faulty(f"repeat {number} {{ }}", 2)

    def test_texts_that_break_off(self):
        for text, _ in STATEMENTS:
            tokens = text.split()
            for many in range(1, len(tokens)):
                broken = tokens[:many]
                if fault_in(broken) is not None:
                    self.faulty(" ".join(broken), many + 1)
                    self.faulty("pause ; " + " ".join(broken) + "  ", many + 3)
        self.faulty("say", 2)
        self.faulty("start", 2)
        self.faulty("start 1", 3)
        self.faulty("wait", 2)
        self.faulty("adopt", 2)
        self.faulty("repeat", 2)
        self.faulty("repeat 3", 3)
        self.faulty("repeat 3 {", 4)
        self.faulty("repeat 3 { pause", 5)
        self.faulty("try", 2)
        self.faulty("try {", 3)
        self.faulty("try { pause", 4)
        self.faulty("try { }", 4)
        self.faulty("try { } catch", 5)
        self.faulty("try { } catch {", 6)
        self.faulty("try { } catch { pause", 7)

    def test_semicolons_in_blocks(self):
        self.faulty("try { ; } catch { }", 3)
        self.faulty("try { } catch { ; }", 6)
        self.faulty("try { pause ; } catch { }", 4)
        self.faulty("repeat 3 { ; }", 4)
        self.faulty("repeat 3 { pause ; pause }", 5)
        self.faulty("repeat 3 { repeat 2 { } ; }", 8)

    def test_too_many_closing_braces(self):
        self.faulty("}", 1)
        self.faulty("pause }", 2)
        self.faulty("say a }", 3)
        self.faulty("; }", 2)
        self.faulty("try { } catch { } }", 7)
        self.faulty("try { } }", 4)
        self.faulty("repeat 3 { } }", 5)
        self.faulty("repeat 3 { } } ; pause", 5)

    def test_braces_and_catch_that_are_missing_or_wrong(self):
        self.faulty("{", 1)
        self.faulty("{ }", 1)
        self.faulty("catch { }", 1)
        self.faulty("try pause", 2)
        self.faulty("try }", 2)
        self.faulty("try { } pause", 4)
        self.faulty("try { } { }", 4)
        self.faulty("try { catch { }", 3)
        self.faulty("try { } catch }", 5)
        self.faulty("try { } catch pause", 5)
        self.faulty("try { } catch { } catch { }", 7)
        self.faulty("repeat { }", 2)
        self.faulty("repeat 3 pause", 3)
        self.faulty("repeat 3 3 { }", 3)
        self.faulty("try ; { }", 2)

    def test_blanks_do_not_count(self):
        self.faulty("   pause     x", 2)
        self.faulty("try{pause}catch{fail}}", 9)
        self.faulty(" ; ;; x", 4)
        self.faulty("say   ", 2)

    def test_the_first_fault_is_told(self):
        self.faulty("x y z", 1)
        self.faulty("say A wait e } ;", 2)
        self.faulty("pause wait e say A", 3)

    def test_all_texts_of_few_tokens(self):
        for many in (1, 2, 3):
            for tokens in itertools.product(TOKENS, repeat=many):
                self.judged_rightly(tokens)

    def test_longer_texts_with_one_wrong_token(self):
        for program in PROGRAMS[3:7]:
            tokens = text_of(program).split()
            for at in range(len(tokens) + 1):
                self.judged_rightly(tokens[:at])
                self.judged_rightly(tokens[:at] + tokens[at + 1:])
                for token in TOKENS:
                    self.judged_rightly(tokens[:at] + [token] + tokens[at + 1:])
                    self.judged_rightly(tokens[:at] + [token] + tokens[at:])

    def test_very_long_texts(self):
        self.faulty("pause " * 5000 + "x", 5001)
        self.faulty(";" * 3000 + "}", 3001)


class NoPrograms(Checked):
    """Point 29: texts that are whole, but tell no program."""

    def test_too_many_bodies(self):
        for many in (8, 9, 20, 3000):
            self.tells_no_program(";" * many)
            self.tells_no_program("pause ;" * many)

    def test_too_many_statements(self):
        self.tells("pause " * 40, ((PAUSE,) * 40,))
        for many in (41, 42, 5000):
            self.tells_no_program("pause " * many)
        self.tells_no_program("pause " * 20 + "try {" + "pause " * 10 + "} catch {" + "pause " * 10 + "}")

    def test_started_bodies(self):
        for text in ("start 0 a", "start 1 a", "start 7 a", "; start 1 a ;", "; start 0 a;", "; start 2 a",
                     "start 3 a ; ;", "repeat 0 { start 1 a }", "try { } catch { start 0 a }"):
            self.tells_no_program(text)

    def test_blocks_too_deep(self):
        self.tells(
            "repeat 1 { try { } catch { } }", ((("repeat", 1, (("try", (), ()),)),),)
        )
        for text in (
            "repeat 1 { repeat 1 { repeat 1 { } } }",
            "try { try { try { } catch { } } catch { } } catch { }",
            "try { } catch { try { } catch { try { } catch { } } }",
            "repeat 1 { try { } catch { repeat 1 { pause } } }",
        ):
            self.tells_no_program(text)

    def test_blocks_a_hundred_deep(self):
        for deep in (99, 100, 110):
            self.tells_no_program("repeat 1 {" * deep + "}" * deep)
            self.tells_no_program("try {" * deep + "pause" + "} catch { }" * deep)
            self.tells_no_program("try { } catch {" * deep + "pause" + "}" * deep)

    def test_faults_a_hundred_deep(self):
        for deep in (99, 100, 110):
            self.faulty("repeat 1 {" * deep + "}" * (deep - 1), 4 * deep)
            self.faulty("repeat 1 {" * deep + "x" + "}" * deep, 3 * deep + 1)
            self.faulty("repeat 1 {" * deep + "}" * (deep + 1), 4 * deep + 1)
            self.faulty("try {" * deep + "} catch { }" * (deep - 1) + "}", 2 * deep + 4 * (deep - 1) + 2)

    def test_sizes(self):
        fits_yet = "repeat 100 { pause } repeat 98 { pause }"
        self.assertEqual(text_of(program_of(fits_yet)), fits_yet)
        self.tells_no_program(fits_yet + " pause")
        self.tells_no_program("; pause " + fits_yet + " ; ")
        self.tells_no_program("repeat 100 { repeat 100 { } }")

    def test_faults_go_first(self):
        self.faulty("start 0 a }", 4)
        self.faulty(";" * 20 + "say", 22)
        self.faulty("pause " * 50 + "say A", 52)
        self.faulty("repeat 100 { repeat 100 { } } x", 9)


class Interface(unittest.TestCase):

    def test_the_functions_are_defined_here_with_these_arguments(self):
        for name, argument in (("text_of", "program"), ("program_of", "text")):
            function = getattr(texts, name)
            self.assertEqual(function.__module__, "sameticks.texts")
            self.assertEqual(list(inspect.signature(function).parameters), [argument])
        self.assertEqual(text_of(program=program_of(text="pause")), "pause")

    def test_programs_are_not_modified(self):
        for program in PROGRAMS:
            before = repr(program)
            self.assertEqual(text_of(program), text_of(program))
            self.assertEqual(repr(program), before)


if __name__ == "__main__":
    unittest.main()
