"""Points 13 to 18: threads, their moves, and runs of one thread alone."""

import random
import unittest

from heldcalls.errors import BadRun, NoName, WrongMove
from heldcalls.layout import call_length, locks_at
from heldcalls.library import Library
from heldcalls.threads import Thread, play, shortest_run
from tests.moves import COUNTED, held_set, next_moves, start_state
from tests.support import dense_text, raised, random_text, text_of

BUSY = text_of(
    "lock b", "lock a", "hook now low main", "deferred late low", "deferred other", "hook none",
    "routine low", "acquire a", "release a", "end",
    "routine main", "acquire a", "acquire b", "invoke late", "invoke other", "maybe low", "invoke now", "call low",
    "release b", "release a", "invoke late", "end",
    "entry main", "entry low",
)
START = ("start", "main")


def told(thread):
    """Returns all that the thread tells."""
    return (thread.frames, thread.held, thread.held_set, thread.lock_stack, thread.pending, thread.length,
            thread.wants, thread.ended, thread.run, thread.moves())


def after(*moves, text=BUSY):
    return play(Library.read(text), list(moves))


def run_of(text, entry, *words):
    """Makes default moves, or the move with the given pair instead, until all given pairs have been made."""
    thread = Thread(Library.read(text), entry)
    wanted = list(words)
    while wanted:
        move = wanted[0] if wanted[0] in thread.moves() else thread.moves()[-1]
        if move == wanted[0]:
            del wanted[0]
        thread.step(move)
    return thread


class TestStart(unittest.TestCase):
    def test_state_after_the_start(self):
        thread = Thread(Library.read(BUSY), "main")
        self.assertEqual(told(thread), ((("main", 0),), (), (), (), (), 0, "a", False, (START,), (("acquire", "a"),)))

    def test_every_entry(self):
        library = Library.read(BUSY)
        for entry in ("main", "low"):
            self.assertEqual(Thread(library, entry).frames, ((entry, 0),))

    def test_what_is_not_an_entry(self):
        library = Library.read("lock a\nhook h\nroutine one\nend\nroutine two\nend\nentry one")
        for name in ("two", "a", "h", "none", ""):
            self.assertEqual(raised(NoName, Thread, library, name), {"name": name})
            self.assertEqual(raised(NoName, shortest_run, library, name), {"name": name})
        self.assertEqual(raised(NoName, Thread, Library.read(""), "one"), {"name": "one"})

    def test_properties_cannot_be_assigned(self):
        thread = Thread(Library.read(BUSY), "main")
        for name in ("frames", "held", "held_set", "lock_stack", "pending", "length", "wants", "ended", "run"):
            with self.assertRaises(AttributeError):
                setattr(thread, name, ())


class TestState(unittest.TestCase):
    def test_the_two_orders_of_held_locks(self):
        thread = after(START, ("acquire", "a"), ("acquire", "b"), ("invoke", "late"), ("invoke", "other"),
                       ("call", "low"), ("acquire", "a"))
        self.assertEqual([thread.held, thread.held_set, thread.lock_stack],
                         [("a", "b", "a"), ("b", "a"), ("a", "b")])

    def test_the_lock_stack_goes_by_the_first_place(self):
        text = text_of("lock a", "lock b", "lock c", "routine r", "acquire c", "acquire a", "acquire c", "acquire b",
                       "acquire a", "release a", "release b", "release c", "release a", "release c", "end", "entry r")
        run = shortest_run(Library.read(text), "r")
        found = [(thread.held, thread.held_set, thread.lock_stack)
                 for thread in (play(Library.read(text), run[:many]) for many in (4, 6, 9))]
        self.assertEqual(found, [(("c", "a", "c"), ("a", "c"), ("c", "a")),
                                 (("c", "a", "c", "b", "a"), ("a", "b", "c"), ("c", "a", "b")),
                                 (("c", "a"), ("a", "c"), ("c", "a"))])

    def test_pending_hooks_with_repeats(self):
        thread = run_of(BUSY, "main", ("callback", "main"), ("acquire", "b"), ("invoke", "late"), ("invoke", "other"))
        self.assertEqual(thread.pending, ("late", "other", "late", "other"))

    def test_words_that_count(self):
        text = text_of("lock a", "hook h r", "routine r", "acquire a", "release a", "end", "routine go", "call r",
                       "maybe r", "maybe r", "invoke h", "end", "entry go")
        thread = Thread(Library.read(text), "go")
        lengths = []
        for move in [("call", "r"), ("acquire", "a"), ("release", "a"), ("return", "r"), ("skip", "r"), ("call", "r"),
                     ("acquire", "a"), ("release", "a"), ("return", "r"), ("invoke", "h"), ("callback", "r"),
                     ("acquire", "a"), ("release", "a"), ("return", "r"), ("done", "h"), ("return", "go")]:
            thread.step(move)
            lengths.append(thread.length)
        self.assertEqual(lengths, [1, 2, 3, 4, 5, 6, 7, 8, 9, 10, 10, 11, 12, 13, 13, 14])
        self.assertIs(type(thread.length), int)

    def test_after_the_end(self):
        thread = after(*shortest_run(Library.read(BUSY), "low"))
        self.assertEqual(told(thread), ((), (), (), (), (), 3, None, True, shortest_run(Library.read(BUSY), "low"), ()))

    def test_wants(self):
        text = text_of("lock a", "lock skip", "hook h r", "routine r", "acquire a", "acquire a", "maybe r", "release a",
                       "release a", "invoke h", "acquire skip", "release skip", "end", "entry r")
        found = []
        library = Library.read(text)
        run = shortest_run(library, "r")
        for many in range(1, len(run) + 1):
            found.append(play(library, run[:many]).wants)
        # A thread can want a lock that it holds; before a maybe, a release, an invoke, a body's end and the return
        # it wants nothing.
        self.assertEqual(found, ["a", "a", None, None, None, None, None, "skip", None, None, None])

    def test_a_body_and_a_maybe_want_nothing(self):
        thread = after(("start", "r"), ("invoke", "h"), text="lock a\nhook h\nroutine r\ninvoke h\nend\nentry r")
        self.assertEqual([thread.wants, thread.moves()], [None, (("done", "h"),)])


class TestMoves(unittest.TestCase):
    def test_in_a_routine(self):
        text = text_of("lock a", "hook h", "routine low", "end", "routine r", "acquire a", "invoke h", "call low",
                       "release a", "end", "entry r")
        library = Library.read(text)
        run = shortest_run(library, "r")
        found = [play(library, run[:many]).moves() for many in range(1, len(run) + 1)]
        self.assertEqual(found, [(move,) for move in run[1:]] + [()])
        self.assertEqual(run, (("start", "r"), ("acquire", "a"), ("invoke", "h"), ("done", "h"), ("call", "low"),
                               ("return", "low"), ("release", "a"), ("return", "r")))

    def test_maybe(self):
        thread = Thread(Library.read("routine r\nmaybe r\nend\nentry r"), "r")
        self.assertEqual(thread.moves(), (("call", "r"), ("skip", "r")))

    def test_callbacks_in_the_order_of_the_hook(self):
        text = text_of("hook h c a b", "routine a", "end", "routine b", "end", "routine c", "invoke h", "end",
                       "entry c")
        thread = after(("start", "c"), ("invoke", "h"), text=text)
        moves = (("callback", "c"), ("callback", "a"), ("callback", "b"), ("done", "h"))
        self.assertEqual(thread.moves(), moves)
        thread.step(("callback", "a"))
        thread.step(("return", "a"))
        self.assertEqual(thread.moves(), moves)
        self.assertEqual(thread.frames, (("c", 1), ("h", -1)))

    def test_an_empty_routine(self):
        thread = Thread(Library.read("routine r\nend\nentry r"), "r")
        self.assertEqual(thread.moves(), (("return", "r"),))
        thread.step(("return", "r"))
        self.assertEqual([thread.moves(), thread.ended, thread.length], [(), True, 1])

    def test_tuples_of_tuples(self):
        thread = Thread(Library.read(BUSY), "main")
        self.assertIs(type(thread.moves()), tuple)
        while not thread.ended:
            for found in (thread.moves(), thread.frames, thread.run):
                self.assertIs(type(found), tuple)
                self.assertEqual({type(pair) for pair in found}, {tuple})
            thread.step(thread.moves()[-1])


class TestEffects(unittest.TestCase):
    def test_a_call_goes_on_behind_its_statement(self):
        thread = run_of(BUSY, "main", ("call", "low"))
        self.assertEqual(thread.frames, (("main", 5), ("low", 0)))
        thread = run_of(BUSY, "main", ("skip", "low"))
        self.assertEqual(thread.frames, (("main", 5),))

    def test_an_immediate_hook_begins_at_once_under_a_lock(self):
        thread = run_of(BUSY, "main", ("invoke", "now"))
        self.assertEqual([thread.frames, thread.pending], [(("main", 6), ("now", -1)), ("late", "other")])

    def test_a_deferred_hook_begins_at_once_without_a_lock(self):
        text = "deferred h r\nroutine r\ninvoke h\nend\nentry r"
        thread = after(("start", "r"), ("invoke", "h"), ("callback", "r"), ("invoke", "h"), text=text)
        self.assertEqual([thread.frames, thread.pending], [(("r", 1), ("h", -1), ("r", 1), ("h", -1)), ()])

    def test_the_last_release_begins_a_body_for_each_pending_hook(self):
        text = text_of("lock a", "deferred one", "deferred two", "routine r", "acquire a", "invoke two", "invoke one",
                       "invoke two", "invoke two", "release a", "end", "entry r")
        thread = run_of(text, "r", ("release", "a"))
        self.assertEqual(thread.frames, (("r", 6), ("two", -1), ("two", -1), ("one", -1), ("two", -1)))
        self.assertEqual([thread.pending, thread.held], [(), ()])
        for hook in ("two", "one", "two", "two"):
            self.assertEqual(thread.moves(), (("done", hook),))
            thread.step(("done", hook))
        self.assertEqual(thread.moves(), (("return", "r"),))

    def test_other_releases_begin_no_body(self):
        text = text_of("lock a", "lock b", "deferred h r", "routine r", "acquire a", "acquire b", "invoke h",
                       "release b", "acquire a", "release a", "release a", "end", "entry r")
        for last in (("release", "b"), ("release", "a")):
            thread = run_of(text, "r", last)
            self.assertEqual([thread.pending, thread.held, len(thread.frames)], [("h",), ("a",), 1])
        thread = run_of(text, "r", ("release", "a"), ("release", "a"))
        self.assertEqual([thread.pending, thread.held, thread.frames], [(), (), (("r", 7), ("h", -1))])

    def test_a_release_in_a_called_routine_under_a_lock(self):
        thread = run_of(BUSY, "main", ("call", "low"), ("release", "a"))
        self.assertEqual([thread.held, thread.pending], [("a", "b"), ("late", "other")])

    def test_bodies_begin_within_the_routine_that_releases(self):
        text = text_of("lock a", "deferred h", "routine low", "acquire a", "invoke h", "release a", "end",
                       "routine r", "call low", "end", "entry r")
        thread = run_of(text, "r", ("release", "a"))
        self.assertEqual(thread.frames, (("r", 1), ("low", 3), ("h", -1)))

    def test_a_body_that_calls_back_may_make_hooks_pending_again(self):
        text = text_of("lock a", "deferred h r", "routine r", "acquire a", "invoke h", "release a", "end", "entry r")
        thread = run_of(text, "r", ("callback", "r"), ("invoke", "h"))
        self.assertEqual([thread.frames, thread.pending], [(("r", 3), ("h", -1), ("r", 2)), ("h",)])
        thread.step(("release", "a"))
        self.assertEqual(thread.frames, (("r", 3), ("h", -1), ("r", 3), ("h", -1)))

    def test_names_like_words(self):
        text = text_of("lock release", "lock acquire", "hook done call", "routine call", "acquire acquire",
                       "release acquire", "end", "routine skip", "acquire release", "invoke done", "maybe call",
                       "release release", "end", "entry skip")
        thread = run_of(text, "skip", ("callback", "call"), ("acquire", "acquire"))
        self.assertEqual(thread.held, ("release", "acquire"))
        thread = run_of(text, "skip", ("return", "skip"))
        self.assertEqual([thread.ended, thread.length], [True, 5])


class TestWrongMoves(unittest.TestCase):
    def test_the_error_tells_the_move_and_nothing_changes(self):
        library = Library.read(BUSY)
        wrong = [("start", "main"), ("start", "low"), ("acquire", "b"), ("release", "a"), ("acquire", "none"),
                 ("return", "main"), ("done", "now"), ("callback", "low"), ("maybe", "low"), ("call", "main"), ("", "")]
        thread = Thread(library, "main")
        while True:
            before = told(thread)
            for move in wrong:
                if move not in before[-1]:
                    self.assertEqual(raised(WrongMove, thread.step, move), {"move": move})
                    self.assertEqual(told(thread), before)
            if thread.ended:
                break
            thread.step(thread.moves()[-1])
        self.assertEqual(raised(WrongMove, thread.step, ("return", "main")), {"move": ("return", "main")})

    def test_the_statement_maybe_is_not_a_move(self):
        thread = Thread(Library.read("routine r\nmaybe r\nend\nentry r"), "r")
        self.assertEqual(raised(WrongMove, thread.step, ("maybe", "r")), {"move": ("maybe", "r")})

    def test_a_step_returns_nothing(self):
        self.assertIsNone(Thread(Library.read(BUSY), "main").step(("acquire", "a")))


class TestDuplicate(unittest.TestCase):
    def test_same_state_then_their_own_ways(self):
        text = text_of("lock a", "deferred h r", "routine r", "acquire a", "invoke h", "maybe r", "release a", "end",
                       "entry r")
        library = Library.read(text)
        ways = {"call": ("call", "r"), "skip": ("skip", "r")}
        for first, second in (("call", "skip"), ("skip", "call")):
            thread = play(library, [("start", "r"), ("acquire", "a"), ("invoke", "h")])
            twin = thread.duplicate()
            self.assertIs(type(twin), Thread)
            self.assertEqual(told(twin), told(thread))
            before = told(thread)
            thread.step(ways[first])
            self.assertEqual(told(twin), before)
            between = told(thread)
            twin.step(ways[second])
            for _ in range(2):
                twin.step(twin.moves()[0])
            self.assertEqual(told(thread), between)
            for each in (thread, twin):
                self.assertEqual(told(play(library, each.run)), told(each))

    def test_of_an_ended_thread(self):
        thread = after(*shortest_run(Library.read(BUSY), "low"))
        self.assertEqual(told(thread.duplicate()), told(thread))

    def test_every_state_of_a_run(self):
        library = Library.read(BUSY)
        run = shortest_run(library, "main")
        thread = Thread(library, "main")
        for move in run[1:]:
            twin = thread.duplicate()
            thread.step(move)
            twin.step(move)
            self.assertEqual(told(twin), told(thread))

    def test_what_was_read_earlier_stays(self):
        thread = Thread(Library.read(BUSY), "main")
        earlier = [told(thread)]
        kept = [told(thread)]
        while not thread.ended:
            thread.step(thread.moves()[0] if thread.length < 20 else thread.moves()[-1])
            earlier.append(told(thread))
            kept.append(tuple(tuple(each) if type(each) is tuple else each for each in told(thread)))
        self.assertEqual(earlier, kept)
        self.assertEqual([len(state[8]) for state in earlier], list(range(1, len(earlier) + 1)))


class TestPlay(unittest.TestCase):
    def test_list_and_tuple(self):
        library = Library.read(BUSY)
        run = [START, ("acquire", "a"), ("acquire", "b")]
        for given in (run, tuple(run)):
            thread = play(library, given)
            self.assertIs(type(thread), Thread)
            self.assertEqual([thread.run, thread.held], [tuple(run), ("a", "b")])
        self.assertEqual(run, [START, ("acquire", "a"), ("acquire", "b")])

    def test_the_list_is_not_kept(self):
        run = [START, ("acquire", "a")]
        thread = play(Library.read(BUSY), run)
        run.append(("acquire", "b"))
        self.assertEqual(thread.run, (START, ("acquire", "a")))
        thread.step(("acquire", "b"))
        thread.step(("invoke", "late"))
        self.assertEqual(len(run), 3)

    def test_a_start_alone(self):
        self.assertEqual(after(START).frames, (("main", 0),))

    def test_bad_first_moves(self):
        library = Library.read(text_of("lock a", "routine main", "acquire a", "release a", "end", "routine low", "end",
                                       "entry main"))
        for run in ([], (), [("start", "low")], [("start", "a")], [("start", "none")], [("acquire", "a")],
                    [("", "main")], [("acquire", "a"), START], [("call", "main")], [("start", "low"), ("no", "no")]):
            self.assertEqual(raised(BadRun, play, library, run), {"at": 0})
        self.assertEqual(raised(BadRun, play, Library.read(""), []), {"at": 0})

    def test_the_first_move_that_cannot_be_made(self):
        library = Library.read(BUSY)
        run = list(shortest_run(library, "main"))
        for at in range(1, len(run) + 1):
            for wrong in (START, ("start", "low"), ("start", "none"), ("release", "none"), ("maybe", "low")):
                for given in (run[:at] + [wrong], run[:at] + [wrong] + run[at:], tuple(run[:at] + [wrong, wrong])):
                    self.assertEqual(raised(BadRun, play, library, given), {"at": at})
        self.assertTrue(play(library, run).ended)

    def test_acquires_always_succeed(self):
        text = text_of("lock a", "routine r", "acquire a", "acquire a", "maybe r", "release a", "release a", "end",
                       "entry r")
        thread = run_of(text, "r", ("call", "r"), ("call", "r"), ("acquire", "a"), ("acquire", "a"))
        self.assertEqual([thread.held, thread.held_set], [("a",) * 6, ("a",)])


class TestShortestRun(unittest.TestCase):
    def test_default_moves_only(self):
        library = Library.read(BUSY)
        run = shortest_run(library, "main")
        self.assertIs(type(run), tuple)
        thread = Thread(library, "main")
        for move in run[1:]:
            self.assertEqual(thread.moves()[-1], move)
            thread.step(move)
        self.assertTrue(thread.ended)
        self.assertEqual(run[-1], ("return", "main"))
        self.assertNotIn(("call", "main"), run)
        self.assertEqual([move for move in run if move[0] == "done"],
                         [("done", "now"), ("done", "late"), ("done", "other"), ("done", "late")])

    def test_executes_the_call_length(self):
        for seed in range(100):
            library = Library.read(random_text(seed))
            for entry in library.entries:
                self.assertEqual(play(library, shortest_run(library, entry)).length, call_length(library, entry))


class TestWalks(unittest.TestCase):
    """Random runs, against the moves of the points written a second time."""

    def check_walk(self, library, entry, chance):
        thread = Thread(library, entry)
        state = start_state(entry)
        run = [("start", entry)]
        length = 0
        for _ in range(150):
            frames, held, pending = state
            ways = next_moves(library, state)
            wants = ways[0][0][1] if ways and ways[0][0][0] == "acquire" else None
            stack = tuple(dict.fromkeys(held))
            self.assertEqual(told(thread), (frames, held, held_set(library, held), stack, pending, length, wants,
                                            frames == (), tuple(run), tuple(move for move, _ in ways)))
            self.check_point_18(library, thread)
            if not ways:
                break
            move, state = chance.choice(ways)
            run.append(move)
            length += move[0] in COUNTED
            self.assertIsNone(thread.step(move))
        return len(run), len(thread.run)

    def check_point_18(self, library, thread):
        locks = [locks_at(library, routine)[place] for routine, place in thread.frames if place != -1]
        self.assertEqual(thread.held, sum(locks, ()))
        if not thread.held:
            self.assertEqual(thread.pending, ())

    def test_random_walks(self):
        walks = []
        for seed in range(150):
            library = Library.read(random_text(seed) if seed % 2 else dense_text(seed))
            for entry in library.entries:
                walks.append(self.check_walk(library, entry, random.Random(seed)))
        self.assertGreater(len(walks), 150)
        self.assertGreater(max(walks), (140, 140))

    def test_default_moves_end_every_thread(self):
        for seed in range(60):
            library = Library.read(dense_text(seed))
            chance = random.Random(seed)
            thread = Thread(library, library.entries[0])
            for _ in range(40):
                if not thread.ended:
                    thread.step(chance.choice(thread.moves()))
            for _ in range(4000):
                if not thread.ended:
                    thread.step(thread.moves()[-1])
            self.assertTrue(thread.ended)
            self.assertEqual([thread.held, thread.pending], [(), ()])

    def test_long_runs(self):
        text = text_of("lock a", "lock b", "deferred h", "routine r", "acquire a", "acquire b", "invoke h", "maybe r",
                       "release b", "release a", "end", "entry r")
        library = Library.read(text)
        thread = Thread(library, "r")
        for _ in range(10000):
            thread.step(thread.moves()[0])
        self.assertEqual([len(thread.frames), len(thread.held), len(thread.pending)], [2501, 5000, 2500])
        self.assertEqual([thread.held_set, thread.lock_stack, thread.length], [("a", "b"), ("a", "b"), 10000])
        twin = play(library, thread.duplicate().run)
        while not twin.ended:
            twin.step(twin.moves()[-1])
        self.assertEqual(twin.length, 10000 + 4 + 2501 * 3)
        self.assertEqual(len(twin.run), 1 + twin.length + 2501)
