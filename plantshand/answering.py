"""How an answer stands: the number answered, then, where something is told behind it, that as a row."""


def with_row(number, row):
    """An answer with a row behind its number."""
    return [number, len(row)] + row
