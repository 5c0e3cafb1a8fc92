import unittest

import helper
from perfectgraphs.books import Book
from perfectgraphs.changes import graph_of, log_of
from perfectgraphs.errors import GraphError, InvalidChange, NothingToUndo, TooMany, Unfit
from perfectgraphs.perfection import is_perfect

HOUSE_LOG = (("vertex", ()), ("vertex", (0,)), ("vertex", (1,)), ("vertex", (0, 2)), ("vertex", (1, 2)))
NO_CHANGES = helper.ANY_VALUES + [("out", 9), ("out", True), ("cut", 1, 0), ("edge", 3, 3), ["out", 0], ("vertex", [0])]


class Stop(Exception):
    """An error of the tests' own."""


# Of Python's own, of the tests' own, and such as are no Exception at all.
ERRORS = (Stop, ValueError, KeyError, ZeroDivisionError, StopIteration, KeyboardInterrupt, SystemExit, GeneratorExit)


def misfits(graph):
    return [change for change in helper.all_changes() if helper.led_on(graph, change) is None]


class BooksCase(unittest.TestCase):
    def check(self, book, log, graph):
        self.assertEqual((book.graph, book.log, len(book)), (graph, tuple(log), len(log)))
        self.assertTrue(helper.is_among(book.log, [tuple(log)]) and helper.is_among(book.graph, [graph]))
        self.assertIs(type(len(book)), int)

    def check_refused(self, error, given, call):
        with self.assertRaises(GraphError) as caught:
            call()
        self.assertIs(type(caught.exception), error)
        self.assertIs(caught.exception.given, given)


class Session(BooksCase):
    def test_answers(self):
        book = Book()
        self.assertEqual(
            [book.do(("vertex", ())), book.do(("vertex", (0,))), book.graph, book.undo(), book.log, len(book)],
            [None, None, (2, ((0, 1),)), None, (("vertex", ()),), 1])
        self.check_refused(Unfit, change := ("edge", 0, 1), lambda: book.do(change))


class Changes(BooksCase):
    def test_beside_a_log_of_its_own(self):
        for seed in range(6):
            log, graphs = helper.drawn_log(40, seed)
            book = Book()
            self.check(book, (), (0, ()))
            for at, change in enumerate(log):
                for wrong in misfits(book.graph)[seed::97]:
                    self.check_refused(Unfit, wrong, lambda: book.do(wrong))
                    self.check(book, log[:at], graphs[at])
                for wrong in NO_CHANGES[(at + seed) % 7::7]:
                    self.check_refused(InvalidChange, wrong, lambda: book.do(wrong))
                    self.check(book, log[:at], graphs[at])
                self.assertIsNone(book.do(change))
                self.check(book, log[:at + 1], graphs[at + 1])
            for at in range(len(log), 0, -1):
                self.assertIsNone(book.undo())
                self.check(book, log[:at - 1], graphs[at - 1])
            self.assertRaises(NothingToUndo, book.undo)
            self.check(book, (), (0, ()))

    def test_undo_of_an_empty_book(self):
        book = Book()
        for _ in range(2):
            with self.assertRaises(NothingToUndo) as caught:
                book.undo()
            self.assertEqual(vars(caught.exception), {})
            self.check(book, (), (0, ()))
        book.do(("vertex", ()))
        book.undo()
        self.assertRaises(NothingToUndo, book.undo)
        book.do(("vertex", ()))
        self.check(book, (("vertex", ()),), (1, ()))

    def test_two_side_by_side(self):
        (log, graphs), (other_log, other_graphs) = helper.drawn_log(30, 1), helper.drawn_log(30, 2)
        book, other = Book(), Book()
        for at in range(30):
            book.do(log[at])
            other.do(change=other_log[at])
            self.check(book, log[:at + 1], graphs[at + 1])
            self.check(other, other_log[:at + 1], other_graphs[at + 1])
        for at in range(30):
            other.undo()
            self.check(book, log, graphs[30])
            self.check(other, other_log[:29 - at], other_graphs[29 - at])

    def test_200_changes_and_one_more(self):
        log, graphs = helper.drawn_log(200, 11)
        book = Book()
        for change in log:
            book.do(change)
        self.check(book, log, graphs[200])
        self.assertEqual(graph_of(book.log), book.graph)
        fitting = [change for change in helper.all_changes() if helper.led_on(graphs[200], change)]
        for change in fitting[::20]:
            with self.assertRaises(TooMany) as caught:
                book.do(change)
            self.assertIs(type(caught.exception), TooMany)
            self.check(book, log, graphs[200])
        # What is wrong by itself is told ahead of that.
        for wrong in misfits(graphs[200])[::50]:
            self.check_refused(Unfit, wrong, lambda: book.do(wrong))
        for wrong in NO_CHANGES:
            self.check_refused(InvalidChange, wrong, lambda: book.do(wrong))
        self.check(book, log, graphs[200])
        book.undo()
        self.check(book, log[:199], graphs[199])
        book.do(log[199])
        self.check(book, log, graphs[200])
        self.assertRaises(TooMany, book.do, fitting[0])

    def test_what_was_read_stays(self):
        book = Book()
        graph, log = book.graph, book.log
        for change in HOUSE_LOG:
            book.do(change)
        self.assertEqual((graph, log), ((0, ()), ()))
        self.check(book, HOUSE_LOG, helper.HOUSE)
        self.assertEqual(log_of(book.graph), book.log)
        self.assertIs(is_perfect(book.graph), True)


class Truth(BooksCase):
    def test_a_book_is_true_and_equal_to_itself_alone(self):
        book, other = Book(), Book()
        for _ in range(2):
            self.assertIs(bool(book), True)
            self.assertTrue(book == book and not book != book)
            self.assertTrue(book != other and not book == other)
            for value in (None, True, 0, (), (0, ()), "", book.log, book.graph):
                self.assertFalse(book == value)
            book.do(("vertex", ()))
            other.do(("vertex", ()))

    def test_the_methods_stand_in_the_class_itself(self):
        for name in ("do", "undo", "trial", "tried", "__init__", "__len__"):
            self.assertIn(name, vars(Book))


class Trials(BooksCase):
    def started(self):
        book = Book()
        for change in HOUSE_LOG[:3]:
            book.do(change)
        return book

    def test_without_an_exception_all_stays_done(self):
        book = self.started()
        with book.trial() as given:
            self.assertIs(given, book)
            for change in HOUSE_LOG[3:]:
                given.do(change)
        self.check(book, HOUSE_LOG, helper.HOUSE)
        with book.trial():
            book.undo()
        self.check(book, HOUSE_LOG[:4], helper.round_of(4))
        with book.trial():
            pass
        self.check(book, HOUSE_LOG[:4], helper.round_of(4))

    def test_behind_an_exception_the_book_is_as_it_was(self):
        for error in ERRORS:
            for steps in range(4):
                book = self.started()
                raised = error("why")
                with self.assertRaises(error) as caught:
                    with book.trial():
                        for change in (HOUSE_LOG[3], ("cut", 0, 3), ("out", 2))[:steps]:
                            book.do(change)
                        raise raised
                self.assertIs(caught.exception, raised)
                self.check(book, HOUSE_LOG[:3], (3, ((0, 1), (1, 2))))

    def test_exceptions_of_the_package(self):
        for call, error in ((lambda book: book.do(("out", 5)), Unfit), (lambda book: book.do(None), InvalidChange)):
            book = self.started()
            with self.assertRaises(error):
                with book.trial():
                    book.undo()
                    book.do(("vertex", ()))
                    call(book)
            self.check(book, HOUSE_LOG[:3], (3, ((0, 1), (1, 2))))
        book = self.started()
        with self.assertRaises(NothingToUndo):
            with book.trial():
                while True:
                    book.undo()
        self.check(book, HOUSE_LOG[:3], (3, ((0, 1), (1, 2))))
        log, graphs = helper.drawn_log(199, 5)
        book = Book()
        for change in log:
            book.do(change)
        with self.assertRaises(TooMany):
            with book.trial():
                while True:
                    book.do(next(change for change in helper.all_changes() if helper.led_on(book.graph, change)))
        self.check(book, log, graphs[199])

    def test_an_exception_that_is_met_inside(self):
        book = self.started()
        with book.trial():
            book.do(HOUSE_LOG[3])
            try:
                book.do(("edge", 0, 1))
            except Unfit:
                book.do(HOUSE_LOG[4])
        self.check(book, HOUSE_LOG, helper.HOUSE)

    def test_a_trial_within_a_trial(self):
        book = self.started()
        with book.trial():
            book.do(HOUSE_LOG[3])
            with self.assertRaises(Stop):
                with book.trial():
                    book.do(("out", 0))
                    raise Stop()
            self.check(book, HOUSE_LOG[:4], helper.round_of(4))
            book.do(HOUSE_LOG[4])
        self.check(book, HOUSE_LOG, helper.HOUSE)

    def test_rows_left_by_return_break_and_continue(self):
        book = Book()

        def left():
            with book.trial():
                book.do(("vertex", ()))
                return len(book)

        self.assertEqual(left(), 1)
        for at in range(4):
            with book.trial():
                book.do(("vertex", ()))
                if at == 1:
                    continue
                if at == 2:
                    break
        self.check(book, (("vertex", ()),) * 4, (4, ()))

    def test_a_call_alone_changes_nothing(self):
        book = self.started()
        trial = book.trial()
        self.check(book, HOUSE_LOG[:3], (3, ((0, 1), (1, 2))))
        book.do(HOUSE_LOG[3])
        self.check(book, HOUSE_LOG[:4], helper.round_of(4))
        # The rows begin later than the call.
        with self.assertRaises(Stop):
            with trial:
                book.do(HOUSE_LOG[4])
                raise Stop()
        self.check(book, HOUSE_LOG[:4], helper.round_of(4))
        book.trial()
        book.undo()
        del trial
        self.check(book, HOUSE_LOG[:3], (3, ((0, 1), (1, 2))))

    def test_trials_of_two_books(self):
        book, other = self.started(), Book()
        with self.assertRaises(Stop):
            with book.trial():
                book.do(HOUSE_LOG[3])
                with other.trial():
                    other.do(("vertex", ()))
                other.do(("vertex", (0,)))
                raise Stop()
        self.check(book, HOUSE_LOG[:3], (3, ((0, 1), (1, 2))))
        self.check(other, (("vertex", ()), ("vertex", (0,))), (2, ((0, 1),)))

    def test_drawn_trials_up_to_three_deep(self):
        seen = set()
        for seed in range(120):
            draws, book = helper.Draws(seed), Book()
            state = self.run_rows(book, ((), (0, ())), draws, 0, seen)
            self.check(book, *state)
        ends = ("none", "met", "met further out")
        self.assertEqual(seen, {(way, depth, end) for way in ("with", "tried") for depth in (1, 2, 3) for end in ends}
                         - {("with", 1, "met further out"), ("tried", 1, "met further out")})

    def run_rows(self, book, state, draws, depth, seen):
        """Draws rows, does them to the book, and tells (LOG, GRAPH) behind them, or raises a Stop."""
        for _ in range(2 + draws.below(5)):
            choice = draws.below(7)
            if choice < 3:
                state = self.run_change(book, state, draws)
            elif choice == 3 and state[0]:
                book.undo()
                log = state[0][:-1]
                state = (log, graph_of(log))
            elif choice == 4 and depth:
                raise Stop(draws.below(1000))
            elif depth < 3:
                state = self.run_trial(book, state, draws, depth + 1, seen)
            self.check(book, *state)
        return state

    def run_change(self, book, state, draws):
        log, graph = state
        change = helper.drawn_changes(1, draws.below(10 ** 6))[0]
        behind = helper.led_on(graph, change)
        if behind is None:
            self.check_refused(Unfit, change, lambda: book.do(change))
            return state
        book.do(change)
        return (log + (change,), behind)

    def run_trial(self, book, state, draws, depth, seen):
        way = ("with", "tried")[draws.below(2)]
        found = {}

        def rows(given):
            self.assertIs(given, book)
            found["inside"] = self.run_rows(book, state, draws, depth, seen)
            return found

        try:
            if way == "tried":
                self.assertIs(book.tried(rows), found)
            else:
                with book.trial() as given:
                    rows(given)
        except Stop as error:
            self.check(book, *state)
            if depth > 1 and draws.below(2):
                seen.add((way, depth, "met further out"))
                raise error
            seen.add((way, depth, "met"))
            return state
        seen.add((way, depth, "none"))
        return found["inside"]


class Tried(BooksCase):
    def test_what_it_returns(self):
        book = Book()
        for value in helper.ANY_VALUES:
            self.assertIs(book.tried(lambda given: value), value)
        self.assertIs(book.tried(lambda given: given), book)
        self.check(book, (), (0, ()))

    def test_what_it_did_stays(self):
        book = Book()

        def build(given):
            for change in HOUSE_LOG:
                given.do(change)
            return given.graph

        self.assertEqual(book.tried(build), helper.HOUSE)
        self.check(book, HOUSE_LOG, helper.HOUSE)
        self.assertIsNone(book.tried(action=lambda given: given.undo()))
        self.check(book, HOUSE_LOG[:4], helper.round_of(4))

    def test_behind_an_exception(self):
        for error in ERRORS:
            book, raised = Book(), error("why")
            book.do(("vertex", ()))

            def fail(given):
                given.do(("vertex", (0,)))
                given.undo()
                given.undo()
                raise raised

            with self.assertRaises(error) as caught:
                book.tried(fail)
            self.assertIs(caught.exception, raised)
            self.check(book, (("vertex", ()),), (1, ()))

    def test_one_within_another(self):
        book = Book()

        def inner(given):
            given.do(("vertex", ()))
            raise Stop()

        def outer(given):
            given.do(("vertex", ()))
            self.assertRaises(Stop, given.tried, inner)
            self.check(book, (("vertex", ()),), (1, ()))
            given.do(("vertex", (0,)))
            return "done"

        self.assertEqual(book.tried(outer), "done")
        self.check(book, (("vertex", ()), ("vertex", (0,))), (2, ((0, 1),)))


if __name__ == "__main__":
    unittest.main()
