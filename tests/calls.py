"""Calls as lists of numbers, and their answers taken apart again."""

from tablerulesdesk.keeper import answers

EXAMPLE = "table p { age: number from 0 to 9; boss: ref p none clear; } table q { of: ref p cascade unique; }"


def load(text):
    """The call load of a text, or of a list of numbers."""
    return with_list([0], list(text.encode("ascii")) if isinstance(text, str) else text)


def written():
    return [1]


def fill(*rows):
    return with_list([2], list(rows))


def broken(*rows):
    return with_list([3], list(rows))


def tables():
    return [4]


def insert(table, row_id, *values):
    return with_list([5, table, row_id], list(values))


def update(table, row_id, *pairs):
    return with_list([6, table, row_id], list(pairs))


def delete(table, row_id):
    return [7, table, row_id]


def would(table, row_id):
    return [8, table, row_id]


def refers(table, row_id):
    return [9, table, row_id]


def many(mode, *statements):
    """The call many; each statement is a list of numbers, and so may be the beginning of one."""
    return with_list([10, mode], [number for statement in statements for number in statement])


def row(table, row_id):
    return [11, table, row_id]


def with_list(ahead, numbers):
    return ahead + [len(numbers)] + numbers


def run(*calls):
    """Hand the calls to answers as one list; give a list with each call's answer."""
    told = answers([number for call in calls for number in call])
    parted = []
    place = 0
    while place < len(told):
        stop = place + 1 + told[place]
        assert told[place] >= 1 and stop <= len(told), told
        parted.append(told[place + 1:stop])
        place = stop
    assert len(parted) == len(calls), told
    return parted


def text_written(answer):
    """The text that an answer of written tells."""
    assert answer[0] == 0
    return bytes(answer[1:]).decode("ascii")
