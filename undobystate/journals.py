"""Editors from their journals, and the records of what they did.

A journal is a tuple of operations; a record is a pair of an operation and the state of the editor behind it.
"""

from undobystate.editor import MOST_OPERATIONS, Editor, carried_out, is_operation
from undobystate.errors import BadValue, NotPossible
from undobystate.systems import check_system, is_state, is_tuple_of


def is_journal(system, value):
    """Tell whether the value is a tuple of at most 20 operations, possible or not."""
    if not isinstance(value, tuple) or len(value) > MOST_OPERATIONS:
        return False
    return all(is_operation(system, operation) for operation in value)


def replayed(system, journal):
    """Return an editor that has carried out the operations of the journal."""
    check_system(system)
    if not is_journal(system, journal):
        raise BadValue("journal")
    return carried_out(system, journal)


def is_record(system, value):
    """Tell whether the value is a pair of an operation and a state."""
    return is_tuple_of(value, 2) and is_operation(system, value[0]) and is_state(system, value[1])


def holds(editor, record):
    """Carry out the operation of the record, and tell whether it is possible and leads to the state."""
    try:
        return editor.act(record[0]) == record[1]
    except NotPossible:
        return False


def are_right(system, records):
    """Tell whether the records hold, one after another, beginning with a new editor."""
    check_system(system)
    if not isinstance(records, tuple) or len(records) > MOST_OPERATIONS:
        return False
    editor = Editor(system)
    for record in records:
        if not is_record(system, record) or not holds(editor, record):
            return False
    return True
