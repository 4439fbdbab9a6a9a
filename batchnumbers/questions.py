"""Questions by which the moduli of an unknown machine are learned."""

from math import lcm

from batchnumbers.errors import Refused
from batchnumbers.rests import fits_lot
from batchnumbers.tellings import possible_lots


def next_question(yes, no):
    """None, or the first number whose answer leaves the fewest possible lots, whatever it is."""
    lots = possible_lots(yes, no)
    if len(lots) == 0:
        raise Refused(1)
    return _question_for(lots)


def _question_for(lots):
    """The question for these possible lots, None if there is only one."""
    if len(lots) == 1:
        return None
    whole = 1
    for lot in lots:
        for modulus in lot:
            whole = lcm(whole, modulus)
    best, fewest = 0, len(lots)
    for count in range(whole):
        fitting = len([lot for lot in lots if fits_lot(lot, count)])
        left = max(fitting, len(lots) - fitting)
        if left < fewest:
            best, fewest = count, left
        # No number can do better than to halve the lots.
        if fewest * 2 <= len(lots) + 1:
            break
    return best


def learned(ask, bound):
    """The only possible lot and the questions with their answers, once nothing is left to be asked."""
    lots = possible_lots((bound, bound + 1), ())
    asked = []
    count = _question_for(lots)
    while count is not None:
        answer = ask(count)
        asked.append((count, answer))
        lots = [lot for lot in lots if fits_lot(lot, count) == answer]
        count = _question_for(lots)
    return lots[0], tuple(asked)
