"""Books: points 15, 24, 25, 26 and 27."""

import inspect
import unittest

import reference
from sameticks.book import Book
from sameticks.contexts import put_into
from sameticks.errors import (
    BadContext, BadFrame, BadProgram, NameTaken, NoSuchName, TickError, TooMuch, Unlike,
)
from sameticks.profiles import are_alike, profile_of
from sameticks.programs import body_sizes, check_frame, check_program
from sameticks.texts import program_of

PAUSE = ("pause",)
HOLE = ("start", 1, "a")
PLAIN = ((HOLE,),)
WAITING = ((HOLE, ("wait", "a")),)
CATCHING = ((HOLE, ("try", (("wait", "a"),), ())),)
NEVER = ((("return",), HOLE),)
GOOD = program_of("say x")
WAIT = program_of("start 1 a wait a ; say x")
ADOPT = program_of("start 1 a adopt a ; say x")
BAD = ((("say", "X"),),)
NO_CONTEXT = ((HOLE, ("say", "X")),)
NO_FRAME = ((HOLE, HOLE),)
EIGHT_BODIES = (GOOD[0],) + ((),) * 7


def program_of_size(size):
    """A program of one body of this size, 304 or more, that says x."""
    pauses, more = divmod(size - 304, 3)
    body = (("say", "x"), ("repeat", 99, (PAUSE,)), ("repeat", pauses, (PAUSE,))) + (PAUSE,) * more
    assert body_sizes((body,)) == (size,)
    return (body,)


# A program of the greatest size, which no frame can start.
GREAT = program_of_size(600)


def seen(book):
    """All that a book tells of itself."""
    told = tuple(book.told(name) for name, _, _ in book.users())
    return (book.programs(), book.users(), book.log(), told)


class Books(unittest.TestCase):

    def refuses(self, error, book, method, *arguments):
        """The book refuses a call, and is as before; returns the error."""
        before = seen(book)
        with self.assertRaises(TickError) as caught:
            getattr(book, method)(*arguments)
        self.assertIs(caught.exception.__class__, error)
        self.assertEqual(seen(book), before)
        return caught.exception

    def book_of(self, programs, users):
        book = Book()
        for name, program in programs:
            self.assertIsNone(book.add(name, program))
        for name, frame, used in users:
            self.assertIsNone(book.use(name, frame, used))
        return book


class Added(Books):
    """Point 24."""

    def test_an_empty_book(self):
        self.assertEqual(seen(Book()), ((), (), (), ()))

    def test_programs_and_users_in_the_order_in_which_they_were_added(self):
        programs = (("q", GOOD), ("p", WAIT), ("a", ADOPT))
        users = (("z", PLAIN, "p"), ("b", WAITING, "q"), ("c", PLAIN, "p"))
        book = self.book_of(programs, users)
        self.assertEqual((book.programs(), book.users()), (programs, users))
        self.assertEqual(book.program("p"), WAIT)
        self.assertEqual(book.user("b"), (WAITING, "q"))

    def test_the_same_name_for_a_program_and_a_user(self):
        book = self.book_of((("x", GOOD), ("y", WAIT)), (("x", WAITING, "y"), ("y", PLAIN, "x")))
        self.assertEqual((book.program("x"), book.user("x")), (GOOD, (WAITING, "y")))
        self.assertEqual(book.log(), (("add", "x"), ("add", "y"), ("use", "x"), ("use", "y")))
        self.refuses(NameTaken, book, "add", "x", GOOD)
        self.refuses(NameTaken, book, "use", "y", PLAIN, "y")

    def test_the_same_program_under_two_names(self):
        book = self.book_of((("x", GOOD), ("y", GOOD)), ())
        book.put("x", WAIT)
        self.assertEqual(book.programs(), (("x", WAIT), ("y", GOOD)))

    def test_names_that_there_are_not(self):
        book = self.book_of((("x", GOOD),), (("u", PLAIN, "x"),))
        for name in ("u", "y", "xx", ""):
            self.refuses(NoSuchName, book, "program", name)
        for name in ("x", "y", "uu", ""):
            self.refuses(NoSuchName, book, "user", name)
            self.refuses(NoSuchName, book, "told", name)

    def test_what_users_tell(self):
        book = self.book_of((("x", WAIT), ("y", program_of("pause fail"))), ())
        frames = (PLAIN, WAITING, CATCHING, NEVER)
        for number, frame in enumerate(frames):
            book.use(f"x{number}", frame, "x")
            book.use(f"y{number}", frame, "y")
        for number, frame in enumerate(frames):
            self.assertEqual(book.told(f"x{number}"), reference.profile(reference.put(frame, WAIT)))
            self.assertEqual(book.told(f"y{number}"), profile_of(put_into(frame, program_of("pause fail"))))
        book.put("x", GOOD)
        self.assertEqual(book.told("x1"), ((("x",),), 1, True, ()))

    def test_programs_are_refused_in_this_order(self):
        book = self.book_of([(f"p{number}", GOOD) for number in range(7)], ())
        self.refuses(NameTaken, book, "add", "p0", BAD)
        self.refuses(NameTaken, book, "add", "p0", GOOD)
        for program in (BAD, (), ((HOLE,),), ((PAUSE,) * 41,), ((),) * 9, program_of_size(601)):
            self.refuses(BadProgram, book, "add", "q", program)
        book.add("p7", GOOD)
        self.refuses(NameTaken, book, "add", "p7", BAD)
        self.refuses(BadProgram, book, "add", "q", BAD)
        self.refuses(TooMuch, book, "add", "q", GOOD)

    def test_eight_programs_and_a_ninth(self):
        book = self.book_of([(f"p{number}", GOOD) for number in range(8)], ())
        self.refuses(TooMuch, book, "add", "p8", GOOD)
        book.put("p0", WAIT)
        self.refuses(TooMuch, book, "add", "p8", GOOD)
        book.undo()
        book.undo()
        book.add("p8", WAIT)
        self.assertEqual(book.programs()[6:], (("p6", GOOD), ("p8", WAIT)))
        self.refuses(TooMuch, book, "add", "p7", GOOD)

    def test_users_are_refused_in_this_order(self):
        book = self.book_of((("x", GOOD), ("great", EIGHT_BODIES)), [(f"u{number}", PLAIN, "x") for number in range(7)])
        for many in (7, 8):
            self.refuses(NameTaken, book, "use", "u0", NO_CONTEXT, "y")
            self.refuses(NameTaken, book, "use", "u0", PLAIN, "x")
            self.refuses(BadContext, book, "use", "v", NO_CONTEXT, "y")
            self.refuses(BadFrame, book, "use", "v", NO_FRAME, "y")
            self.refuses(BadContext, book, "use", "v", NO_CONTEXT, "x")
            self.refuses(BadFrame, book, "use", "v", NO_FRAME, "great")
            self.refuses(NoSuchName, book, "use", "v", PLAIN, "y")
            self.refuses(NoSuchName, book, "use", "v", PLAIN, "u0")
            self.refuses(BadProgram, book, "use", "v", PLAIN, "great")
            if many == 7:
                book.use("u7", PLAIN, "x")
        self.refuses(TooMuch, book, "use", "v", PLAIN, "x")

    def test_what_is_neither_a_context_nor_a_frame(self):
        book = self.book_of((("x", GOOD),), ())
        self.refuses(BadContext, book, "use", "v", ((HOLE, HOLE, ("wait", "e")),), "x")
        for frame in ((), ((("start", 2, "a"),),), ((HOLE,),) + ((),) * 7):
            self.refuses(BadContext, book, "use", "v", frame, "x")
        for frame in (
            ((PAUSE,),), ((("repeat", 1, (HOLE,)),),), ((HOLE,) + (PAUSE,) * 18,), ((), (("start", 2, "a"),)),
        ):
            self.refuses(BadFrame, book, "use", "v", frame, "x")

    def test_eight_users_and_a_ninth(self):
        users = [(f"u{number}", PLAIN, "xy"[number % 2]) for number in range(8)]
        book = self.book_of((("x", GOOD), ("y", WAIT)), users)
        self.refuses(TooMuch, book, "use", "u8", PLAIN, "x")
        book.undo()
        book.use("u8", WAITING, "y")
        self.refuses(TooMuch, book, "use", "u7", PLAIN, "x")
        self.assertEqual(len(book.users()), 8)

    def test_sizes_near_600_within_frames(self):
        frame = ((HOLE,) + (PAUSE,) * 17,)
        self.assertEqual(body_sizes(frame), (20,))
        programs = (("just", program_of_size(580)), ("over", program_of_size(581)), ("great", GREAT))
        book = self.book_of(programs, ())
        book.use("u", frame, "just")
        self.refuses(BadProgram, book, "use", "v", frame, "over")
        book.use("v", ((HOLE,) + (PAUSE,) * 16,), "over")
        for least in (PLAIN, NEVER):
            self.refuses(BadProgram, book, "use", "w", least, "great")

    def test_eight_bodies_within_frames(self):
        book = self.book_of((("four", ((),) * 4), ("five", ((),) * 5)), ())
        frame = ((("start", 4, "a"),), (), (), ())
        book.use("u", frame, "four")
        self.refuses(BadProgram, book, "use", "v", frame, "five")
        book.use("v", ((("start", 3, "a"),), (), ()), "five")


class Put(Books):
    """Point 25."""

    USERS = (
        ("plain", PLAIN, "x"), ("waiting", WAITING, "x"), ("other", WAITING, "y"), ("catching", CATCHING, "x"),
        ("never", NEVER, "x"),
    )

    def tells(self, book, name, program, users):
        """These users are changed; both methods tell the same, and what they tell is so."""
        before = seen(book)
        elder = book.program(name)
        told = book.changes(name, program)
        self.assertEqual(seen(book), before)
        self.assertEqual(book.fork().put(name, program), told)
        self.assertEqual(tuple(user for user, _, _, _ in told), users)
        for user, context, one, other in told:
            frame = book.user(user)[0]
            self.assertLessEqual(len(context), 3)
            self.assertNotEqual(one, other)
            for put, said in ((elder, one), (program, other)):
                self.assertEqual(reference.words(reference.put(context, reference.put(frame, put))), said)
        for user, frame, used in book.users():
            if used == name:
                results = [reference.profile(reference.put(frame, put)) for put in (elder, program)]
                self.assertEqual(results[0] != results[1], user in users)
        return told

    def test_users_that_are_changed(self):
        book = self.book_of((("x", WAIT), ("y", WAIT)), self.USERS)
        self.tells(book, "x", ADOPT, ("waiting", "catching"))
        self.tells(book, "x", program_of("start 1 a wait a fail ; say x"), ("waiting",))
        self.tells(book, "x", program_of("start 1 a wait a ; say y"), ("plain", "waiting", "catching"))
        self.tells(book, "x", program_of("say x pause"), ())
        self.tells(book, "y", ADOPT, ("other",))
        self.tells(book, "y", WAIT, ())

    def test_the_new_program_stands_in_the_place_of_the_elder_one(self):
        book = self.book_of((("x", WAIT), ("y", GOOD)), self.USERS)
        told = book.changes("x", ADOPT)
        self.assertEqual(book.program("x"), WAIT)
        self.assertEqual(book.put("x", ADOPT), told)
        self.assertEqual(book.programs(), (("x", ADOPT), ("y", GOOD)))
        self.assertEqual(book.users(), self.USERS)
        self.assertEqual(book.told("waiting"), profile_of(put_into(WAITING, ADOPT)))
        self.assertEqual(book.put("x", ADOPT), ())

    def test_a_program_without_users(self):
        book = self.book_of((("x", WAIT), ("y", GOOD)), (("u", PLAIN, "y"),))
        self.assertEqual(book.changes("x", program_of("say z")), ())
        self.assertEqual(book.put("x", GREAT), ())
        self.assertEqual(book.program("x"), GREAT)

    def test_programs_that_fail(self):
        book = self.book_of((("x", WAIT), ("y", WAIT)), self.USERS)
        self.tells(book, "x", program_of("say x pause fail"), ("waiting",))
        book.put("x", program_of("say x fail"))
        self.tells(book, "x", program_of("say x"), ("waiting",))

    def test_what_is_refused_in_this_order(self):
        book = self.book_of((("x", GOOD), ("y", GOOD)), (("u", WAITING, "x"),))
        for method in ("put", "changes", "keep"):
            self.refuses(NoSuchName, book, method, "z", BAD)
            self.refuses(NoSuchName, book, method, "u", GOOD)
            self.refuses(NoSuchName, book, method, "", GREAT)
            for program in (BAD, (), ((PAUSE,) * 41,), ((),) * 9, program_of_size(601)):
                self.refuses(BadProgram, book, method, "x", program)
                self.refuses(BadProgram, book, method, "y", program)
            for program in (GREAT, EIGHT_BODIES, program_of_size(600), program_of_size(597)):
                self.assertIsNone(check_program(program))
                self.refuses(BadProgram, book, method, "x", program)

    def test_sizes_near_600_within_frames(self):
        frame = ((HOLE,) + (PAUSE,) * 17,)
        elder = program_of("say y")
        book = self.book_of((("x", elder), ("y", elder)), (("u", PLAIN, "x"), ("v", frame, "x"), ("w", PLAIN, "y")))
        for method in ("put", "changes", "keep"):
            # It is a program within the frame of the first user, but not within that of the second one.
            self.refuses(BadProgram, book, method, "x", program_of_size(581))
        self.assertEqual([user for user, _, _, _ in book.put("x", program_of_size(580))], ["u", "v"])
        self.assertEqual([user for user, _, _, _ in book.put("y", program_of_size(581))], ["w"])

    def test_eight_programs_and_eight_users(self):
        frames = (
            PLAIN, WAITING, CATCHING, NEVER, ((HOLE,) + (PAUSE,) * 17,), ((PAUSE,) * 16 + (HOLE, ("wait", "a")),),
            ((("try", (HOLE, ("adopt", "a")), ()),),), ((("try", (("fail",),), (HOLE, ("wait", "a"))),),),
        )
        programs = [(f"p{number}", program_of_size(580)) for number in range(8)]
        book = self.book_of(programs, [(f"u{number}", frame, "p3") for number, frame in enumerate(frames)])
        self.tells(book, "p3", program_of_size(579), ("u1", "u2", "u5", "u6", "u7"))
        self.tells(book, "p3", program_of("say y"), ("u0", "u1", "u2", "u4", "u5", "u6", "u7"))
        self.assertEqual(book.put("p4", GOOD), ())

    def test_books_of_all_kinds(self):
        made = reference.Programs(61, 2)
        for _ in range(60):
            elder, new = made.program(2, 5), made.program(2, 5)
            book = self.book_of((("x", elder), ("y", elder)), ())
            for number in range(made.random.randint(0, 4)):
                bodies = made.program(made.random.randint(1, 2), 4)
                frame = reference.frame_of(bodies, "a", made.random.choice(reference.hole_places(bodies[0])))
                if max(body_sizes(bodies)) < 20:
                    self.assertIsNone(check_frame(frame))
                    book.use(f"u{number}", frame, made.random.choice("xy"))
            changed = []
            for name, frame, used in book.users():
                before, after = [reference.profile(reference.put(frame, put)) for put in (elder, new)]
                if used == "x" and before != after:
                    changed.append(name)
            self.tells(book, "x", new, tuple(changed))


class Kept(Books):
    """Point 26."""

    def test_a_program_that_is_alike(self):
        alike = program_of("say x pause")
        book = self.book_of((("x", WAIT), ("y", GOOD)), (("u", WAITING, "x"), ("v", PLAIN, "x")))
        told = [book.told("u"), book.told("v")]
        self.assertEqual(book.changes("x", alike), ())
        self.assertIsNone(book.keep("x", alike))
        self.assertEqual(book.programs(), (("x", alike), ("y", GOOD)))
        self.assertEqual([book.told("u"), book.told("v")], told)
        self.assertEqual(book.log()[-1], ("keep", "x"))
        self.assertIsNone(book.keep("x", alike))
        self.assertIsNone(book.keep("x", WAIT))
        self.assertEqual(book.program("x"), WAIT)

    def test_a_program_that_is_not(self):
        book = self.book_of((("x", WAIT), ("y", GOOD)), (("never", NEVER, "x"),))
        for program in (ADOPT, program_of("say x"), program_of("say x pause fail"), program_of("say y pause")):
            # No user is changed, but some might be.
            self.assertEqual(book.changes("x", program), ())
            error = self.refuses(Unlike, book, "keep", "x", program)
            self.assertLessEqual(len(error.context), 3)
            self.assertNotEqual(error.one, error.other)
            self.assertEqual(reference.words(reference.put(error.context, WAIT)), error.one)
            self.assertEqual(reference.words(reference.put(error.context, program)), error.other)

    def test_without_users(self):
        book = self.book_of((("x", WAIT),), ())
        self.refuses(Unlike, book, "keep", "x", ADOPT)
        book.keep("x", program_of("say x pause"))

    def test_unlike_comes_last(self):
        book = self.book_of((("x", GOOD), ("y", GOOD)), (("u", PLAIN, "x"),))
        self.refuses(NoSuchName, book, "keep", "z", WAIT)
        self.refuses(BadProgram, book, "keep", "x", BAD)
        self.refuses(BadProgram, book, "keep", "x", GREAT)
        self.refuses(Unlike, book, "keep", "y", GREAT)
        self.refuses(Unlike, book, "keep", "x", WAIT)

    def test_alike_but_no_program_within_a_frame(self):
        self.assertTrue(are_alike(GOOD, EIGHT_BODIES))
        book = self.book_of((("x", GOOD), ("y", GOOD)), (("u", PLAIN, "x"),))
        self.refuses(BadProgram, book, "keep", "x", EIGHT_BODIES)
        book.keep("y", EIGHT_BODIES)
        sized = program_of("repeat 98 { repeat 1 { } } say x")
        self.assertTrue(are_alike(GOOD, sized))
        self.assertGreater(body_sizes(sized)[0], 580)
        book.use("v", ((HOLE,) + (PAUSE,) * 17,), "x")
        self.refuses(BadProgram, book, "keep", "x", sized)

    def test_a_kept_program_changes_no_user(self):
        made = reference.Programs(71, 1, (5, 5, 6, 7, 3, 0.3, 0.5, 2, 1))
        kept = 0
        for _ in range(40):
            programs = [made.program(2, 4) for _ in range(12)]
            book = self.book_of((("x", programs[0]),), ())
            for number in range(3):
                bodies = made.program(1, 6)
                frame = reference.frame_of(bodies, "a", made.random.choice(reference.hole_places(bodies[0])))
                if max(body_sizes(bodies)) < 20:
                    book.use(f"u{number}", frame, "x")
            told = [book.told(name) for name, _, _ in book.users()]
            for program in programs[1:]:
                if reference.profile(program) == reference.profile(programs[0]):
                    self.assertEqual(book.changes("x", program), ())
                    book.keep("x", program)
                    kept += 1
                else:
                    self.refuses(Unlike, book, "keep", "x", program)
                self.assertEqual([book.told(name) for name, _, _ in book.users()], told)
        self.assertGreater(kept, 20)


class Undone(Books):
    """Point 27: undo and the log."""

    def test_without_deeds(self):
        book = Book()
        self.assertIs(book.undo(), False)
        self.refuses(BadProgram, book, "add", "x", BAD)
        self.assertIs(book.undo(), False)
        self.assertEqual(book.log(), ())

    def test_each_deed(self):
        book = Book()
        told = [seen(book)]
        for deed in (
            lambda: book.add("x", WAIT), lambda: book.use("u", WAITING, "x"), lambda: book.put("x", ADOPT),
            lambda: book.add("y", GOOD), lambda: book.keep("x", ADOPT), lambda: book.use("x", PLAIN, "y"),
            lambda: book.put("y", GOOD),
        ):
            deed()
            told.append(seen(book))
        self.assertEqual(book.log(), (
            ("add", "x"), ("use", "u"), ("put", "x"), ("add", "y"), ("keep", "x"), ("use", "x"), ("put", "y"),
        ))
        self.assertEqual(len(set(told)), len(told))
        for before in reversed(told[:-1]):
            self.assertIs(book.undo(), True)
            self.assertEqual(seen(book), before)
        self.assertIs(book.undo(), False)
        self.assertEqual(seen(book), told[0])

    def test_only_deeds_are_undone(self):
        book = self.book_of((("x", WAIT),), (("u", WAITING, "x"),))
        book.changes("x", ADOPT)
        self.refuses(Unlike, book, "keep", "x", ADOPT)
        self.refuses(NameTaken, book, "use", "u", WAITING, "x")
        book.told("u")
        self.assertEqual(book.log(), (("add", "x"), ("use", "u")))
        book.undo()
        self.assertEqual((book.users(), book.programs()), ((), (("x", WAIT),)))

    def test_a_put_program_gets_back_to_its_place(self):
        book = self.book_of((("x", WAIT), ("y", GOOD), ("z", ADOPT)), ())
        book.put("x", GOOD)
        book.put("y", WAIT)
        self.assertEqual([name for name, _ in book.programs()], ["x", "y", "z"])
        book.undo()
        book.undo()
        self.assertEqual(book.programs(), (("x", WAIT), ("y", GOOD), ("z", ADOPT)))

    def test_the_20_latest_deeds_and_elder_ones(self):
        book = self.book_of((("x", GOOD), ("y", WAIT)), (("u", PLAIN, "x"),))
        told = []
        for number in range(30):
            told.append((book.programs(), book.users()))
            book.put("x", program_of(f"say x{number}"))
        deeds = (("add", "x"), ("add", "y"), ("use", "u")) + (("put", "x"),) * 30
        self.assertEqual(book.log(), deeds[-20:])
        for before in reversed(told[-20:]):
            self.assertIs(book.undo(), True)
            self.assertEqual((book.programs(), book.users()), before)
        self.assertIs(book.undo(), False)
        self.assertEqual(book.programs(), (("x", program_of("say x9")), ("y", WAIT)))
        self.assertEqual(book.log(), ())

    def test_twenty_deeds_and_one_more(self):
        book = self.book_of((("x", GOOD), ("y", GOOD)), ())
        for number in range(18):
            book.put("x", program_of(f"say x{number}"))
        self.assertEqual(book.log(), (("add", "x"), ("add", "y")) + (("put", "x"),) * 18)
        book.keep("y", GOOD)
        self.assertEqual(book.log(), (("add", "y"),) + (("put", "x"),) * 18 + (("keep", "y"),))

    def test_the_log_behind_an_undone_deed(self):
        book = self.book_of((("x", GOOD),), ())
        for _ in range(25):
            book.put("x", WAIT)
        book.undo()
        self.assertEqual(book.log(), (("put", "x"),) * 19)
        book.add("y", GOOD)
        self.assertEqual(book.log(), (("put", "x"),) * 19 + (("add", "y"),))
        book.use("u", PLAIN, "y")
        self.assertEqual(book.log(), (("put", "x"),) * 18 + (("add", "y"), ("use", "u")))
        for _ in range(20):
            self.assertIs(book.undo(), True)
        self.assertIs(book.undo(), False)


class Forked(Books):
    """Point 27: forks."""

    def test_a_fork_has_all_that_its_original_has(self):
        book = self.book_of((("x", WAIT), ("y", GOOD)), (("u", WAITING, "x"),))
        book.put("x", ADOPT)
        fork = book.fork()
        self.assertIs(fork.__class__, Book)
        self.assertEqual(seen(fork), seen(book))
        for _ in range(4):
            self.assertIs(fork.undo(), True)
        self.assertIs(fork.undo(), False)
        self.assertEqual(seen(fork), seen(Book()))
        self.assertEqual(book.log(), (("add", "x"), ("add", "y"), ("use", "u"), ("put", "x")))

    def test_deeds_on_both_sides_in_turn(self):
        book = self.book_of((("x", WAIT),), ())
        fork = book.fork()
        other = book.fork()
        book.add("y", GOOD)
        self.assertEqual(fork.programs(), (("x", WAIT),))
        fork.add("y", ADOPT)
        fork.use("u", PLAIN, "y")
        self.assertEqual((book.program("y"), book.users()), (GOOD, ()))
        book.put("x", GOOD)
        self.assertEqual((fork.program("x"), book.program("x")), (WAIT, GOOD))
        book.use("u", WAITING, "x")
        self.assertEqual((fork.user("u"), book.user("u")), ((PLAIN, "y"), (WAITING, "x")))
        fork.undo()
        fork.keep("y", ADOPT)
        self.assertEqual(fork.log(), (("add", "x"), ("add", "y"), ("keep", "y")))
        self.assertEqual(book.log(), (("add", "x"), ("add", "y"), ("put", "x"), ("use", "u")))
        while fork.undo():
            pass
        self.assertEqual(book.users(), (("u", WAITING, "x"),))
        self.assertEqual(seen(other), ((("x", WAIT),), (), (("add", "x"),), ()))

    def test_forgotten_deeds_in_forks(self):
        book = self.book_of((("x", GOOD),), ())
        for _ in range(19):
            book.keep("x", GOOD)
        fork = book.fork()
        fork.keep("x", GOOD)
        self.assertEqual((len(book.log()), len(fork.log())), (20, 20))
        self.assertEqual((book.log()[0], fork.log()[0]), (("add", "x"), ("keep", "x")))


class Interface(unittest.TestCase):

    METHODS = {
        "programs": [], "users": [], "log": [], "program": ["name"], "user": ["name"], "told": ["name"],
        "add": ["name", "program"], "use": ["name", "frame", "used"], "put": ["name", "program"],
        "changes": ["name", "program"], "keep": ["name", "program"], "undo": [], "fork": [],
    }

    def test_the_class_and_its_methods_are_defined_here(self):
        self.assertEqual(Book.__module__, "sameticks.book")
        self.assertEqual(list(inspect.signature(Book).parameters), [])
        for name, arguments in self.METHODS.items():
            method = vars(Book)[name]
            self.assertEqual(method.__module__, "sameticks.book")
            self.assertEqual(list(inspect.signature(method).parameters), ["self"] + arguments)

    def test_arguments_can_be_named(self):
        book = Book()
        book.add(name="x", program=WAIT)
        book.use(name="u", frame=WAITING, used="x")
        self.assertEqual(book.changes(name="x", program=WAIT), ())
        self.assertEqual(book.put(name="x", program=WAIT), ())
        self.assertIsNone(book.keep(name="x", program=WAIT))
        self.assertEqual((book.program(name="x"), book.user(name="u")), (WAIT, (WAITING, "x")))
        self.assertEqual(book.told(name="u"), profile_of(put_into(WAITING, WAIT)))

    def test_kinds_of_values(self):
        book = Book()
        book.add("x", WAIT)
        book.use("u", WAITING, "x")
        changed = book.put("x", ADOPT)
        for value in (
            book.programs(), book.programs()[0], book.users(), book.users()[0], book.log(), book.log()[0],
            book.user("u"), book.told("u"), changed, changed[0], changed[0][1], changed[0][2], changed[0][3],
        ):
            self.assertIs(value.__class__, tuple)


if __name__ == "__main__":
    unittest.main()
