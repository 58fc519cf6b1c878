"""Books: lists whose rules change by commands, with a journal of them."""

from rulerows.commands import carried_out, change_of, decided_pair, is_command, is_rearrangement, new_state
from rulerows.errors import TooLarge
from rulerows.forms import is_case, is_listed, need
from rulerows.made import other_case


class Book:
    """A list whose rules change, with hits, misses, a lock and a journal."""

    def __init__(self, listed):
        need(is_listed(listed), "listed")
        # The first state is that of the new book; each further one is behind one more record.
        self.states = [new_state(listed)]
        self.done = []

    def act(self, command):
        """Carry out the command; return the number of commands in the journal."""
        need(is_command(self.present()[0], command), "command")
        state, value = carried_out(self.states[-1], command)
        if len(self.done) == 20:
            raise TooLarge("commands")
        self.states.append(state)
        self.done.append((command, value))
        return len(self.done)

    def undo(self):
        """Undo the last command and return it, or None if there is none."""
        if not self.done:
            return None
        self.states.pop()
        command, _ = self.done.pop()
        return command

    def present(self):
        """The present list."""
        return self.states[-1][0]

    def hits(self):
        """The hits of the rules of the present list."""
        return self.states[-1][1]

    def misses(self):
        """The number of misses."""
        return self.states[-1][2]

    def is_locked(self):
        """True if the book is locked, otherwise False."""
        return self.states[-1][3]

    def journal(self):
        """The commands in the journal."""
        return tuple([command for command, _ in self.done])

    def decided(self, case):
        """The decision of the case and the number of the rule that decides it, or None; nothing is counted."""
        need(is_case(self.present()[0], case), "case")
        return decided_pair(self.present(), case)

    def change(self, command):
        """The change of an insert, a remove or a move, or None; nothing is carried out."""
        need(is_rearrangement(self.present()[0], command), "command")
        return change_of(self.present(), command)

    def changed(self):
        """The first case that the present list decides otherwise than the first one, or None."""
        return other_case(self.states[0][0], self.present())

    def records(self):
        """The records of the commands in the journal."""
        return tuple(self.done)

    def twin(self):
        """Another book with the same first list and journal."""
        other = Book(self.states[0][0])
        other.states = list(self.states)
        other.done = list(self.done)
        return other
