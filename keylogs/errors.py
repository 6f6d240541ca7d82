"""Errors that say why something is refused."""


class NoTable(Exception):
    """Bytes that should be a table aren't one."""
