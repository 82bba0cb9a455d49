"""A desk with what it was before and what has been undone, and the calls undo, redo, begin."""

from plantshand.state import Desk

MOST_REMEMBERED = 16


class Memory:
    """The desk as it is; as it was ahead of each call that can be undone; as it was ahead of each undo."""

    def __init__(self):
        self.desk = Desk()
        self.earlier = []
        self.undone = []


def take_over(memory, changed):
    """The changed desk is the desk from now on, and what was before is remembered."""
    memory.earlier = (memory.earlier + [memory.desk])[-MOST_REMEMBERED:]
    memory.undone = []
    memory.desk = changed


def tell_undo(memory):
    """Answer the call undo."""
    if len(memory.earlier) == 0:
        return [-2]
    memory.undone.append(memory.desk)
    memory.desk = memory.earlier.pop()
    return [0]


def tell_redo(memory):
    """Answer the call redo."""
    if len(memory.undone) == 0:
        return [-2]
    # never more than 16: what stands here was remembered beside these when it was undone
    memory.earlier.append(memory.desk)
    memory.desk = memory.undone.pop()
    return [0]


def tell_begin(memory):
    """Answer the call begin."""
    memory.desk = Desk()
    memory.earlier = []
    memory.undone = []
    return [0]
