"""Point 24: runs of least length to contexts and requests, replayed move by move."""

import unittest

from heldcalls.contexts import contexts
from heldcalls.errors import NoContext, NoRequest
from heldcalls.library import Library
from heldcalls.runs import run_to_context, run_to_request
from heldcalls.tables import table_of
from tests.moves import COUNTED, held_set, next_moves, start_state
from tests.support import dense_text, full_text, raised, random_text, text_of


def replay(library, run):
    """Makes the moves of a run; returns the state, its length, and the most callbacks that one body makes."""
    assert type(run) is tuple and all(type(move) is tuple for move in run)
    assert run[0][0] == "start" and run[0][1] in library.entries
    state = start_state(run[0][1])
    length = 0
    # For each body on the frames the number of its callbacks.
    counts = {}
    most = 0
    for move in run[1:]:
        ways = dict(next_moves(library, state))
        assert move in ways, (move, state)
        top = len(state[0]) - 1
        counts = {at: many for at, many in counts.items() if at <= top}
        if move[0] == "callback":
            counts[top] = counts.get(top, 0) + 1
            most = max(most, counts[top])
        if move[0] == "done":
            counts.pop(top, None)
        length += move[0] in COUNTED
        state = ways[move]
    return state, length, most


class RunTest(unittest.TestCase):
    def check_context(self, library, routine, held, length):
        run = run_to_context(library, routine, held)
        (frames, locks, _), found, most = replay(library, run)
        self.assertEqual((frames[-1], held_set(library, locks), found), ((routine, 0), held, length))
        self.assertIn(run[-1], [("start", routine), ("call", routine), ("callback", routine)])
        self.assertLessEqual(most, 1)
        return run

    def check_request(self, library, held, wanted, length):
        run = run_to_request(library, (held, wanted))
        state, found, most = replay(library, run)
        self.assertEqual((held_set(library, state[1]), found), (held, length))
        self.assertEqual([move for move, _ in next_moves(library, state)], [("acquire", wanted)])
        self.assertLessEqual(most, 1)
        return run

    def check_all(self, library):
        for routine, held, length in contexts(library):
            self.check_context(library, routine, held, length)
        table = table_of(library)
        for held, wanted in table:
            self.check_request(library, held, wanted, table[held, wanted])


class TestRuns(RunTest):
    def test_starts(self):
        library = Library.read("lock a\nroutine q\nend\nroutine r\nacquire a\nrelease a\nend\nentry r\nentry q")
        self.assertEqual(run_to_context(library, "r", ()), (("start", "r"),))
        self.assertEqual(run_to_context(library, "q", ()), (("start", "q"),))
        self.assertEqual(run_to_request(library, ((), "a")), (("start", "r"),))

    def test_over_calls_that_must_be_made(self):
        library = Library.read(text_of("lock a", "hook h low", "routine low", "acquire a", "release a", "end",
                                       "routine run", "call low", "invoke h", "maybe run", "acquire a", "maybe low",
                                       "release a", "end", "entry run"))
        self.assertEqual(run_to_context(library, "low", ("a",)), (
            ("start", "run"), ("call", "low"), ("acquire", "a"), ("release", "a"), ("return", "low"), ("invoke", "h"),
            ("done", "h"), ("skip", "run"), ("acquire", "a"), ("call", "low")))
        self.assertEqual(run_to_request(library, (("a",), "a")), run_to_context(library, "low", ("a",)))
        self.assertEqual(run_to_request(library, ((), "a")), (("start", "run"), ("call", "low")))

    def test_the_body_of_a_deferred_hook_comes_in_its_turn(self):
        library = Library.read(text_of(
            "lock a", "deferred one back", "deferred two back", "deferred three low", "routine back", "end",
            "routine low", "end", "routine run", "acquire a", "invoke one", "invoke two", "invoke one",
            "invoke three", "release a", "end", "entry run"))
        run = self.check_context(library, "low", (), 6)
        self.assertEqual(run[-5:], (("release", "a"), ("done", "one"), ("done", "two"), ("done", "one"),
                                    ("callback", "low")))

    def test_down_to_a_deferred_hook(self):
        library = Library.read(text_of(
            "lock a", "hook now mid none", "deferred late back", "routine back", "end", "routine low", "maybe low",
            "invoke late", "invoke late", "end", "routine mid", "call low", "end", "routine run", "acquire a",
            "invoke late", "release a", "acquire a", "invoke now", "release a", "end",
            "entry run").replace("mid none", "mid"))
        self.assertEqual(self.check_context(library, "back", (), 3), (
            ("start", "run"), ("acquire", "a"), ("invoke", "late"), ("release", "a"), ("callback", "back")))
        library = Library.read(library.written().replace("acquire a\ninvoke late\nrelease a\n", ""))
        self.assertEqual(self.check_context(library, "back", (), 9), (
            ("start", "run"), ("acquire", "a"), ("invoke", "now"), ("callback", "mid"), ("call", "low"),
            ("skip", "low"), ("invoke", "late"), ("invoke", "late"), ("return", "low"), ("return", "mid"),
            ("done", "now"), ("release", "a"), ("callback", "back")))

    def test_a_body_may_lead_to_itself(self):
        library = Library.read(text_of("lock a", "lock b", "hook h r", "routine r", "acquire a", "release a",
                                       "acquire b", "invoke h", "release b", "end", "entry r"))
        self.assertEqual(self.check_request(library, ("b",), "a", 4)[-2:], (("invoke", "h"), ("callback", "r")))
        self.check_all(library)

    def test_of_several_requests_the_shorter_way(self):
        library = Library.read(text_of("lock a", "routine far", "acquire a", "release a", "end", "routine run",
                                       "maybe run", "maybe run", "acquire a", "release a", "end", "entry run",
                                       "entry far"))
        self.assertEqual(run_to_request(library, ((), "a")), (("start", "far"),))
        library = Library.read(text_of("lock a", "routine far", "acquire a", "release a", "end", "routine run",
                                       "acquire a", "release a", "call far", "end", "entry run"))
        self.assertEqual(run_to_request(library, ((), "a")), (("start", "run"),))

    def test_equal_arguments_give_equal_runs(self):
        library = Library.read(dense_text(5))
        again = Library.read(library.written())
        for routine, held, _ in contexts(library):
            self.assertEqual(run_to_context(library, routine, held), run_to_context(again, routine, held))
        for request in table_of(library):
            self.assertEqual(run_to_request(library, request), run_to_request(again, request))
        self.assertEqual(library.written(), again.written())

    def test_of_libraries_made_from_it(self):
        library = Library.read(text_of("lock a", "hook h get", "routine get", "acquire a", "release a", "end",
                                       "routine put", "acquire a", "invoke h", "release a", "end", "entry put"))
        for _ in range(2):
            self.assertEqual(len(run_to_context(library, "get", ("a",))), 4)
            self.assertEqual(len(run_to_context(library.deferring("h"), "get", ())), 5)
            self.assertEqual(raised(NoContext, run_to_context, library.deferring("h"), "get", ("a",)),
                             {"context": ("get", ("a",))})

    def test_random_libraries(self):
        for seed in range(250):
            self.check_all(Library.read(dense_text(seed) if seed % 2 else random_text(seed)))

    def test_libraries_at_their_bounds(self):
        for seed in range(2):
            self.check_all(Library.read(full_text(seed)))

    def test_a_long_way(self):
        text = ["lock a", "lock b", "lock c", "lock d", "lock e"]
        for lock in "abcde":
            text += [f"routine r{lock}", *["maybe ra"] * 4, f"acquire {lock}",
                     *[f"maybe r{other}" for other in "abcde" if other != lock][:4], f"release {lock}", "end"]
        library = Library.read(text_of(*text, "entry ra"))
        self.assertGreater(len(contexts(library)), 80)
        self.check_all(library)


class TestNothingThere(unittest.TestCase):
    text = text_of("lock a", "lock b", "hook h", "routine low", "acquire a", "release a", "end", "routine alone",
                   "acquire b", "release b", "end", "routine run", "acquire a", "acquire b", "call low", "release b",
                   "release a", "end", "entry run")

    def test_no_such_context(self):
        library = Library.read(self.text)
        for routine, held in (("run", ("a",)), ("low", ()), ("low", ("b", "a")), ("low", ("a", "a", "b")),
                              ("low", ("a",)), ("alone", ()), ("none", ()), ("h", ()), ("a", ()), ("", ()),
                              ("low", ("none",)), ("low", ("a", "b", "none"))):
            self.assertEqual(raised(NoContext, run_to_context, library, routine, held), {"context": (routine, held)})
        self.assertEqual(raised(NoContext, run_to_context, Library.read(""), "r", ()), {"context": ("r", ())})
        self.assertEqual(len(run_to_context(library, "low", ("a", "b"))), 4)

    def test_no_such_request(self):
        library = Library.read(self.text)
        for request in (((), "b"), (("b", "a"), "a"), (("a", "b"), "b"), (("a", "b", "b"), "a"), ((), "none"),
                        (("none",), "a"), ((), ""), (("b",), "a")):
            self.assertEqual(raised(NoRequest, run_to_request, library, request), {"request": request})
        self.assertEqual(raised(NoRequest, run_to_request, Library.read("lock a"), ((), "a")), {"request": ((), "a")})
        self.assertEqual(len(run_to_request(library, (("a", "b"), "a"))), 4)
