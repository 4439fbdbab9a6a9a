"""Sheets: evidence of several kinds that can be checked."""

from batchnumbers.along import is_move_fault, move_fault
from batchnumbers.basics import is_integer, is_sequence, is_tuple_of
from batchnumbers.batches import batch_fault, is_batch_fault
from batchnumbers.errors import BatchError, InvalidQuestion, Refused
from batchnumbers.following import doubt, is_doubt
from batchnumbers.knotted import is_knots, knots
from batchnumbers.machines import Machine
from batchnumbers.papers import court_paper, is_court_paper
from batchnumbers.turned import is_split_fault, split_fault

QUESTIONS = {
    "paper": ("machine",),
    "fault": ("machine", "count"),
    "knots": ("machine",),
    "split": ("machine", "arrangement", "count"),
    "move": ("machine", "counts", "arrangement"),
    "doubt": ("counts", "count"),
}


def _functions_for(kind):
    """The function that makes the value of a sheet of this kind, and the one that checks it."""
    functions = {
        "paper": (court_paper, is_court_paper),
        "fault": (batch_fault, is_batch_fault),
        "knots": (knots, is_knots),
        "split": (split_fault, is_split_fault),
        "move": (move_fault, is_move_fault),
        "doubt": (doubt, is_doubt),
    }
    return functions[kind]


def _is_kind(value):
    """Whether a value is a kind of sheet."""
    return isinstance(value, str) and value in QUESTIONS


def _is_question(kind, value):
    """Whether a value is a question for this kind of sheet."""
    names = QUESTIONS[kind]
    if not is_tuple_of(value, len(names)):
        return False
    for name, entry in zip(names, value):
        if name == "machine" and not isinstance(entry, Machine):
            return False
        if name == "count" and not is_integer(entry):
            return False
    return True


def sheet_holds(value):
    """Whether a value is a sheet that holds."""
    if not is_tuple_of(value, 3):
        return False
    kind, question, told = value
    if not _is_kind(kind) or not _is_question(kind, question):
        return False
    _, check = _functions_for(kind)
    try:
        return check(*question, told)
    except BatchError:
        return False


def sheet(name, question):
    """A sheet that holds, of the kind with this name and with this question."""
    if not _is_kind(name):
        raise Refused(0)
    if not _is_question(name, question):
        raise Refused(1)
    make, _ = _functions_for(name)
    told = make(*question)
    if told is None:
        raise Refused(2)
    # A list that was passed may be changed later, the sheet may not.
    return name, tuple([list(entry) if isinstance(entry, list) else entry for entry in question]), told


def wrong_sheets(values):
    """The indexes of the values that are no sheets that hold."""
    if not is_sequence(values):
        raise InvalidQuestion(0)
    return tuple([at for at, value in enumerate(values) if not sheet_holds(value)])
