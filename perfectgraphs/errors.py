"""The errors of the package: each keeps just what it is made with."""


class GraphError(ValueError):
    """What all errors of this package stand under."""


class InvalidGraph(GraphError):
    """What was given is no GRAPH."""

    def __init__(self, given):
        self.given = given


class InvalidLot(GraphError):
    """What was given is no lot, or not one of the kind that is asked for."""

    def __init__(self, given):
        self.given = given


class InvalidVertex(GraphError):
    """What was given is no vertex of the graph."""

    def __init__(self, given):
        self.given = given


class InvalidWeights(GraphError):
    """What was given are no WEIGHTS of the graph."""

    def __init__(self, given):
        self.given = given


class InvalidShares(GraphError):
    """What was given are no SHARES of the graph."""

    def __init__(self, given):
        self.given = given


class InvalidTimes(GraphError):
    """What was given are no TIMES of the graph."""

    def __init__(self, given):
        self.given = given


class InvalidRenaming(GraphError):
    """What was given is no renaming of the graph."""

    def __init__(self, given):
        self.given = given


class InvalidNumber(GraphError):
    """What was given is no whole number from 0 on."""

    def __init__(self, given):
        self.given = given


class InvalidOrientation(GraphError):
    """What was given is no ORIENTATION of the graph."""

    def __init__(self, given):
        self.given = given


class InvalidHole(GraphError):
    """What was given is no odd hole of the graph or of its complement."""

    def __init__(self, given):
        self.given = given


class InvalidMultigraph(GraphError):
    """What was given is no MULTIGRAPH."""

    def __init__(self, given):
        self.given = given


class InvalidColours(GraphError):
    """What was given is no colouring of the multigraph's edges."""

    def __init__(self, given):
        self.given = given


class InvalidPreferences(GraphError):
    """What was given are no PREFERENCES of the multigraph."""

    def __init__(self, given):
        self.given = given


class InvalidMatching(GraphError):
    """What was given is no matching of the multigraph."""

    def __init__(self, given):
        self.given = given


class InvalidLists(GraphError):
    """What was given are no LISTS of the multigraph."""

    def __init__(self, given):
        self.given = given


class InvalidChange(GraphError):
    """What was given is no CHANGE."""

    def __init__(self, given):
        self.given = given


class InvalidCutset(GraphError):
    """What was given is no CLIQUE CUTSET of the graph."""

    def __init__(self, given):
        self.given = given


class Unfit(GraphError):
    """What was given is well formed, but does not fit what it is meant for."""

    def __init__(self, given):
        self.given = given


class InvalidLine(GraphError):
    """The line of this index is wrong; None for no text to read."""

    def __init__(self, index):
        self.index = index


class InvalidSign(GraphError):
    """The sign of this index is wrong; None for no text to read."""

    def __init__(self, index):
        self.index = index


class InvalidLog(GraphError):
    """The log's change of this index is wrong; None for no log at all."""

    def __init__(self, index):
        self.index = index


class TooMany(GraphError):
    """What is asked for is more than the package takes on."""


class NothingToUndo(GraphError):
    """There is no change to take back."""


class NoPair(GraphError):
    """The vertices with weights above 0 induce no perfect graph."""
