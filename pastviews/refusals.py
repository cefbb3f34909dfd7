"""The refusals of the operations, one class for each error code."""


class OutOfRange(Exception):
    """An argument is outside its range."""


class NoSuchThing(Exception):
    """There is no such replica or move."""


class NodeNotThere(Exception):
    """The node is not there."""


class TooManyMoves(Exception):
    """There are as many moves already as there may be."""
