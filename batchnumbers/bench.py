"""Benches, on which a script is changed deed by deed."""

from batchnumbers.basics import is_below
from batchnumbers.errors import InvalidQuestion, Refused
from batchnumbers.machines import Machine
from batchnumbers.scripts import flat, is_loose, is_script, join_script, script_change, split_script


class Bench:
    """A machine and a script for it, whose changes can be undone."""

    def __init__(self, machine):
        if not isinstance(machine, Machine):
            raise Refused(0)
        self.machine = machine
        self._script = ()
        self._past = []

    def __len__(self):
        return len(self._past)

    def script(self):
        """The script."""
        return self._script

    def effect(self):
        """The change of the script."""
        return script_change(self.machine, self._script)

    def loose(self):
        """Whether the script is loose."""
        return is_loose(self.machine, self._script)

    def flat(self):
        """The flat row of the script."""
        return flat(self.machine, self._script)

    def put(self, at, item):
        """Puts an item in ahead of the one with the index, or at the end."""
        if not is_below(at, len(self._script) + 1):
            raise InvalidQuestion(0)
        script = self._script[:at] + (item,) + self._script[at:]
        if not is_script(self.machine, script):
            raise InvalidQuestion(1)
        self._go_on_with(script)

    def take(self, at):
        """Takes the item with the index out."""
        if not is_below(at, len(self._script)):
            raise InvalidQuestion(0)
        self._go_on_with(self._script[:at] + self._script[at + 1:])

    def split(self, path, at):
        """Splits the loop to which the path leads at the index."""
        self._go_on_with(split_script(self.machine, self._script, path, at))

    def join(self, path):
        """Joins the loop to which the path leads with the next one."""
        self._go_on_with(join_script(self.machine, self._script, path))

    def _go_on_with(self, script):
        """Keeps the script as it was, so that the deed that makes this one of it can be undone."""
        self._past.append(self._script)
        self._script = script

    def undo(self):
        """Undoes the last deed; whether there was one."""
        if len(self._past) == 0:
            return False
        self._script = self._past.pop()
        return True

    def within(self, work):
        """What the work tells of the bench, all deeds done in it being undone."""
        script, past = self._script, self._past
        # The work's deeds are kept in a list of their own, so that this one stays as it is.
        self._past = list(past)
        try:
            return work(self)
        finally:
            self._script, self._past = script, past
