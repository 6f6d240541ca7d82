"""What calls answer: refusals, and bytes with their length."""

OUT_OF_RANGE = -2
NO_TABLE = -3
LOG_ENDS = -3
NO_ROWS = -4
LOG_DAMAGED = -4
NOT_THERE = -5
KEY_TOO_LONG = -6
TOO_LONG = -7


def with_length(content, most):
    """How many bytes they are, then they; a refusal, if they're more than most."""
    if len(content) > most:
        return [TOO_LONG]
    return [len(content)] + content
