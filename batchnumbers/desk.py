"""Desks, at which a bench is used by commands that are texts."""

from batchnumbers.basics import read_number
from batchnumbers.batches import is_batch_number, moduli
from batchnumbers.bench import Bench
from batchnumbers.errors import InvalidCommand
from batchnumbers.machines import Machine
from batchnumbers.rests import next_fitting

FIGURES = 9

# How many numbers stand behind each word that wants a bench; behind `loop` there may stand more.
NUMBERS = {"loop": 2, "do": 1, "split": 2, "join": 1, "effect": 0, "batch": 1, "moduli": 0, "next": 1, "undo": 0}


class Desk:
    """A bench, if there is one, and what is said to it."""

    def __init__(self):
        self.bench = None

    def say(self, command):
        """Does a command and returns what is answered."""
        word, numbers = _read(command)
        if word == "machine":
            self.bench = Bench(_told_machine(numbers))
            return "ok"
        if not _has_form(word, len(numbers)) or self.bench is None:
            raise InvalidCommand()
        if word in ("effect", "batch", "moduli", "next"):
            return _answered(self.bench, word, numbers)
        return _done(self.bench, word, numbers)


def _read(command):
    """The word and the numbers of a command, any value."""
    if not isinstance(command, str):
        raise InvalidCommand()
    # What is empty or has a newline is no number and none of the words that are known.
    words = command.split(" ")
    return words[0], [_read_integer(word) for word in words[1:]]


def _read_integer(word):
    """The integer for which a word of a command stands."""
    if word.startswith("-"):
        size = read_number(word[1:], FIGURES)
        # There is no 0 with a sign.
        if size < 1:
            raise InvalidCommand()
        return -size
    number = read_number(word, FIGURES)
    if number < 0:
        raise InvalidCommand()
    return number


def _has_form(word, many):
    """Whether a command that wants a bench has this word and so many numbers."""
    if word not in NUMBERS:
        return False
    return many == NUMBERS[word] or word == "loop" and many > NUMBERS[word]


def _told_machine(numbers):
    """The machine with these numbers of commands and states, and with these steps."""
    if len(numbers) < 3:
        raise InvalidCommand()
    commands, states, *steps = numbers
    if commands < 1 or commands * states != len(steps):
        raise InvalidCommand()
    return Machine(commands, [steps[state * commands:(state + 1) * commands] for state in range(states)])


def _answered(bench, word, numbers):
    """The answer to a question, which leaves the bench as it is."""
    if word == "effect":
        return _words(bench.effect())
    if word == "batch":
        return "yes" if is_batch_number(bench.machine, numbers[0]) else "no"
    lot = moduli(bench.machine)
    if word == "next":
        return str(next_fitting(lot, numbers[0]))
    return _words(lot) if lot else "none"


def _words(numbers):
    """The numbers as words."""
    return " ".join([str(number) for number in numbers])


def _done(bench, word, numbers):
    """The answer to a deed, once it is done."""
    if word == "undo":
        return "ok" if bench.undo() else "nothing"
    if word == "loop":
        bench.put(len(bench.script()), (numbers[0], tuple(numbers[1:])))
    elif word == "do":
        bench.put(len(bench.script()), numbers[0])
    elif word == "split":
        bench.split((numbers[0],), numbers[1])
    else:
        bench.join((numbers[0],))
    return "ok"
