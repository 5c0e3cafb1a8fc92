"""Books: graphs that are changed step by step, in trials, too, that an exception takes back."""

from perfectgraphs.changes import EMPTY, MOST_CHANGES, changed, graph_of
from perfectgraphs.errors import NothingToUndo, TooMany


class Trial:
    """For one `with` statement: behind an exception in its rows the book is as it was when they began."""

    def __init__(self, book):
        self.book = book
        self.graph = book.graph
        self.log = book.log

    def __enter__(self):
        # The book may have been changed since the trial was called.
        self.graph = self.book.graph
        self.log = self.book.log
        return self.book

    def __exit__(self, kind, value, trace):
        book = self.book
        if kind is not None:
            book.graph = self.graph
            book.log = self.log


class Book:
    """A graph, and the log of the changes that led to it."""

    def __init__(self):
        self.graph = EMPTY
        self.log = ()

    def __len__(self):
        return len(self.log)

    def __bool__(self):
        # By its length a book without changes would be False.
        return True

    def do(self, change):
        """Changes the graph."""
        graph = changed(self.graph, change)
        if len(self.log) >= MOST_CHANGES:
            raise TooMany()
        self.graph = graph
        self.log = self.log + (change,)

    def undo(self):
        """Takes the last change back."""
        if not self.log:
            raise NothingToUndo()
        self.log = self.log[:-1]
        self.graph = graph_of(self.log)

    def trial(self):
        """For one `with` statement, which gives the book, and takes back what was done before an exception."""
        return Trial(self)

    def tried(self, action):
        """What the function returns for the book, called within a trial."""
        with Trial(self) as book:
            return action(book)
