"""Scripts: commands and loops within one another, split, joined and flattened."""

from batchnumbers.basics import is_below, is_integer, is_tuple_of
from batchnumbers.batches import is_batch_number, moduli
from batchnumbers.changes import changes, command_changes, in_turn, raised
from batchnumbers.errors import InvalidQuestion, Refused
from batchnumbers.rests import fits_lot

MOST_WITHIN = 20
MOST_ITEMS = 200


def is_script(machine, value):
    """Whether a value is a script of the machine."""
    if not isinstance(value, tuple):
        return False
    many = 0
    # Values may be nested without end, so what is still to be looked at is kept in a list.
    waiting = [(value, 0)]
    while waiting:
        script, around = waiting.pop()
        many += len(script)
        if many > MOST_ITEMS:
            return False
        for item in script:
            if _is_loop(item) and around < MOST_WITHIN:
                waiting.append((item[1], around + 1))
            elif not is_below(item, machine.commands):
                return False
    return True


def _is_loop(value):
    """Whether a value is a pair of an integer and a tuple."""
    return is_tuple_of(value, 2) and is_integer(value[0]) and isinstance(value[1], tuple)


def _check_script(machine, value):
    """Refuses a machine with too many changes, then what is no script."""
    changes(machine)
    if not is_script(machine, value):
        raise InvalidQuestion(1)


def script_change(machine, script):
    """The change of the script's items, one after another."""
    _check_script(machine, script)
    return _change_of_items(machine.states, command_changes(machine), script)


def _change_of_items(states, makers, script):
    steps = []
    for item in script:
        if isinstance(item, tuple):
            steps.append(raised(_change_of_items(states, makers, item[1]), item[0]))
        else:
            steps.append(makers[item])
    return in_turn(states, steps)


def split_script(machine, script, path, at):
    """The script with two loops in the place of one, the first with its items before the index."""
    _check_script(machine, script)
    found = _loop_at(script, path)
    if found is None:
        raise InvalidQuestion(2)
    count, body = found
    if not is_below(at, len(body) + 1):
        raise InvalidQuestion(3)
    _check_batch_number(machine, count)
    return _replaced(script, path, 1, ((count, body[:at]), (count, body[at:])))


def join_script(machine, script, path):
    """The script with one loop in the place of one and the next item beside it, a loop with the same count."""
    _check_script(machine, script)
    found = _loop_at(script, path)
    if found is None:
        raise InvalidQuestion(2)
    beside = _loop_at(script, path[:-1] + (path[-1] + 1,))
    if beside is None or beside[0] != found[0]:
        raise InvalidQuestion(2)
    _check_batch_number(machine, found[0])
    return _replaced(script, path, 2, ((found[0], found[1] + beside[1]),))


def _check_batch_number(machine, count):
    if not is_batch_number(machine, count):
        raise Refused(1)


def _loop_at(script, path):
    """The loop to which any value, the path, leads, None if it leads to none."""
    if not isinstance(path, tuple):
        return None
    found = None
    items = script
    for at in path:
        if not is_below(at, len(items)):
            return None
        found = items[at]
        # A command has no items, so a path that goes on behind it leads nowhere.
        items = found[1] if isinstance(found, tuple) else ()
    return found if isinstance(found, tuple) else None


def _replaced(script, path, many, items):
    """The script with the items in the place of so many ones from that on to which the path leads."""
    at = path[0]
    if len(path) == 1:
        return script[:at] + items + script[at + many:]
    count, body = script[at]
    return script[:at] + ((count, _replaced(body, path[1:], many, items)),) + script[at + 1:]


def is_loose(machine, script):
    """Whether the full count of each loop of which two or more items hold commands is a batch number."""
    _check_script(machine, script)
    return _is_loose_within(moduli(machine), script, 1)


def _is_loose_within(lot, script, around):
    """Whether the loops among these items are so, the product of the counts around them being told."""
    for item in script:
        if isinstance(item, tuple):
            count = around * item[0]
            if len([inner for inner in item[1] if _holds_command(inner)]) > 1 and not fits_lot(lot, count):
                return False
            if not _is_loose_within(lot, item[1], count):
                return False
    return True


def _holds_command(item):
    """Whether an item is a command, or a loop with an item that holds one."""
    if not isinstance(item, tuple):
        return True
    return any([_holds_command(inner) for inner in item[1]])


def flat(machine, script):
    """The commands of a loose script as they stand, each with the product of the counts of all loops around it."""
    if not is_loose(machine, script):
        raise Refused(1)
    return tuple(_flat_items(script, 1))


def _flat_items(script, around):
    pairs = []
    for item in script:
        if isinstance(item, tuple):
            pairs.extend(_flat_items(item[1], around * item[0]))
        else:
            pairs.append((item, around))
    return pairs


def flat_change(machine, value):
    """The powers of the commands with the counts of a flat row, one after another."""
    changes(machine)
    if not _is_flat(machine, value):
        raise InvalidQuestion(1)
    makers = command_changes(machine)
    return in_turn(machine.states, [raised(makers[command], count) for command, count in value])


def _is_flat(machine, value):
    """Whether a value is a tuple of pairs of a command and an integer."""
    if not isinstance(value, tuple):
        return False
    for pair in value:
        if not is_tuple_of(pair, 2) or not is_below(pair[0], machine.commands) or not is_integer(pair[1]):
            return False
    return True
