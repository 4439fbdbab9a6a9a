"""Knots: the parts that cannot be parted further, and the merged numbers of several of them."""

from math import gcd, lcm

from batchnumbers.basics import is_integer, is_sequence, prime_powers
from batchnumbers.changes import (changes, commute, composed, few_makers, grown, order_of, raised, reached, spanned,
                                  undone)
from batchnumbers.errors import InvalidQuestion
from batchnumbers.parts import checked_part, is_made_of, middle_of


def division(machine, part):
    """None for a knot, otherwise some two parts, both unlike the part, of which it is made."""
    return _division_of(machine.states, checked_part(machine, part))


def knots(machine):
    """Some knots of which all changes of the machine are made."""
    found = {}
    waiting = [changes(machine)]
    while waiting:
        part = waiting.pop()
        pair = _division_of(machine.states, part)
        if pair is None:
            found[part] = True
        else:
            waiting.extend(pair)
    return tuple(found)


def is_knots(machine, value):
    """Whether a value is a tuple of knots of which all changes of the machine are made."""
    if not is_made_of(machine, changes(machine), value):
        return False
    return all([_division_of(machine.states, part) is None for part in value])


def _division_of(states, part):
    """Some two parts, both unlike this one, of which it is made, or None."""
    # Either one of two such parts lies in the middle, or neither does.
    pair = _parted_by_middle(states, part)
    if pair is None:
        pair = _parted_beside(part)
    return pair


def _parted_by_middle(states, part):
    """A pair of two such parts of which the second one lies in the middle of this one, or None."""
    many = len(part)
    for prime, power in prime_powers(many):
        low = _lowest(states, part, prime)
        for change in middle_of(states, part):
            # What is left of the change has a power of the prime as its order.
            step = raised(change, many // power)
            if step not in low and order_of(step) < many:
                return _greatest_without(states, part, low, step), spanned(states, (step,))
    return None


def _lowest(states, part, prime):
    """The part in which all changes lie that each part with just one prime-th of the changes must have.

    Such a part that does not hold all of the middle is left alone by turning its changes round, so all prime-th
    powers lie in it, and whatever shows how two changes do not change places.
    """
    makers = few_makers(states, part)
    held = [raised(change, prime) for change in part]
    for change in part:
        for maker in makers:
            held.append(composed(composed(undone(change), undone(maker)), composed(change, maker)))
    return grown(states, held)[1]


def _greatest_without(states, part, low, step):
    """A part with all changes of the low one, but without the step, as great as can be."""
    makers, made = grown(states, low)
    for change in part:
        if change not in made:
            more = reached(states, makers + [change])
            if step not in more:
                makers, made = makers + [change], more
    return tuple(sorted(made))


def _parted_beside(part):
    """A pair of two such parts of which each holds all that changes places with the other, or None."""
    many = len(part)
    friends = [_mask([at for at in range(many) if commute(part[at], change)]) for change in part]
    # Such a part is what some changes have in common as those that change places with them.
    for mask in _common_masks(friends, many):
        members = _members(mask, many)
        beside = _members(_common(friends, members, many), many)
        both = _members(mask & _mask(beside), many)
        if len(members) < many and len(beside) < many and len(members) * len(beside) == many * len(both):
            return tuple([part[at] for at in members]), tuple([part[at] for at in beside])
    return None


def _mask(members):
    """The number with just these bits."""
    mask = 0
    for at in members:
        mask |= 1 << at
    return mask


def _members(mask, many):
    """The indexes, less than `many`, of the bits in the mask."""
    return [at for at in range(many) if mask >> at & 1]


def _common(masks, members, many):
    """What the masks with these indexes have in common."""
    common = (1 << many) - 1
    for at in members:
        common &= masks[at]
    return common


def _common_masks(masks, many):
    """All that some of the masks have in common, ascending."""
    found = {(1 << many) - 1: True}
    for mask in sorted(set(masks)):
        for common in list(found):
            found[common & mask] = True
    return sorted(found)


def merged(numbers):
    """The lot of moduli to which integers from 1 on are merged, those with common divisors put together."""
    if not is_sequence(numbers):
        raise InvalidQuestion(0)
    lot = []
    for number in numbers:
        if not is_integer(number) or number < 1:
            raise InvalidQuestion(0)
        # 0 or 1 is left by 1 and 2 always.
        if number > 2:
            lot = _merged_with(lot, number)
    return tuple(sorted(lot))


def _merged_with(lot, number):
    """The lot with one more number, put together with those moduli with which it has common divisors."""
    apart = []
    whole = number
    for modulus in lot:
        if gcd(modulus, number) > 1:
            whole = lcm(whole, modulus)
        else:
            apart.append(modulus)
    return apart + [whole]
