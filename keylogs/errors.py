"""Errors that say why something is refused."""


class NoTable(Exception):
    """Bytes that should be a table aren't one."""


class LogEnds(Exception):
    """A log ends before a record does."""


class LogDamaged(Exception):
    """A piece of a record in a log isn't right."""
