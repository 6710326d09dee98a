"""Editors: commands that are done, revoked and restored, and which of them the present state alone can undo now.

Entries are a tuple of pairs (command, True or False), True if the entry is in effect. An operation is
("execute", command), ("revoke", entry) or ("restore", entry).
"""

from undobystate.errors import BadValue, NotPossible, TooLarge
from undobystate.pairs import table_from
from undobystate.systems import check_system, follow, has_word, is_command, is_index, run

MOST_ENTRIES = 16
MOST_OPERATIONS = 20


def is_operation(system, value):
    """Tell whether the value is an operation, possible or not."""
    if has_word(value, "execute", 2):
        return is_command(system, value[1])
    return (has_word(value, "revoke", 2) or has_word(value, "restore", 2)) and is_index(value[1], MOST_ENTRIES)


def why_not(entries, operation):
    """Return the word that tells why the operation is not possible, or None if it is."""
    if operation[0] == "execute":
        return "full" if len(entries) == MOST_ENTRIES else None
    if operation[1] >= len(entries):
        return "missing"
    in_effect = entries[operation[1]][1]
    if operation[0] == "revoke":
        return None if in_effect else "revoked"
    return "effect" if in_effect else None


def with_effect(entries, entry, in_effect):
    """Return the entries with this one in effect, or revoked."""
    return entries[:entry] + ((entries[entry][0], in_effect),) + entries[entry + 1:]


def entries_behind(entries, operation):
    """Return the entries behind the operation, which is possible."""
    if operation[0] == "execute":
        return entries + ((operation[1], True),)
    return with_effect(entries, operation[1], operation[0] == "restore")


def commands_in_effect(entries):
    """Return the tuple of the commands of the entries that are in effect."""
    return tuple([command for command, in_effect in entries if in_effect])


def state_behind(system, entries):
    """Return the state to which the commands in effect lead from the start."""
    return follow(system, system[1], commands_in_effect(entries))


class Editor:
    """An editor of a system. All that it tells comes of its journal."""

    def __init__(self, system):
        check_system(system)
        self._system = system
        self._journal = []

    def act(self, operation):
        """Carry out the operation, and return the state behind it."""
        if not is_operation(self._system, operation):
            raise BadValue("operation")
        why = why_not(self.entries(), operation)
        if why is not None:
            raise NotPossible(why)
        if len(self._journal) >= MOST_OPERATIONS:
            raise TooLarge("operations")
        self._journal.append(operation)
        return self.state()

    def undo(self):
        """Undo the last operation, and return it, or None if there is none."""
        if not self._journal:
            return None
        return self._journal.pop()

    def state(self):
        """Return the state."""
        return state_behind(self._system, self.entries())

    def entries(self):
        """Return the tuple of the entries."""
        entries = ()
        for operation in self._journal:
            entries = entries_behind(entries, operation)
        return entries

    def states(self):
        """Return the tuple of the states along the commands in effect, from the start to the state."""
        return run(self._system, self._system[1], commands_in_effect(self.entries()))

    def journal(self):
        """Return the tuple of the operations that were carried out."""
        return tuple(self._journal)

    def without(self, entry):
        """Return the state that the editor would have if the entry were revoked."""
        if not is_index(entry, MOST_ENTRIES):
            raise BadValue("entry")
        entries = self.entries()
        if entry >= len(entries):
            raise NotPossible("missing")
        return state_behind(self._system, with_effect(entries, entry, False))

    def revocable(self):
        """Return the ascending tuple of the entries that are revocable now."""
        return tuple([entry for entry in range(len(self.entries())) if self.table(entry) is not None])

    def table(self, entry):
        """Return the table of the entry, or None if it is not revocable now."""
        other = self.without(entry)
        if not self.entries()[entry][1]:
            return None
        return table_from(self._system, self.state(), other)

    def records(self):
        """Return the tuple of the operations of the journal, each with the state behind it."""
        entries = ()
        done = []
        for operation in self._journal:
            entries = entries_behind(entries, operation)
            done.append((operation, state_behind(self._system, entries)))
        return tuple(done)

    def twin(self):
        """Return an editor with the same system and journal, apart from this one."""
        return carried_out(self._system, self.journal())


def carried_out(system, journal):
    """Return an editor that has carried out the operations, one after another."""
    editor = Editor(system)
    for operation in journal:
        editor.act(operation)
    return editor
