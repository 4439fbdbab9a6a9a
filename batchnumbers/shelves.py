"""Shelvings: weights on shelves in a ring, and the machines that they make."""

from batchnumbers.basics import is_below, is_integer, is_tuple_of
from batchnumbers.errors import InvalidQuestion
from batchnumbers.machines import Machine


def is_shelving(value):
    """Whether a value is a pair of a number of places and a tuple of weights, one for each shelf."""
    if not is_tuple_of(value, 2):
        return False
    places, weights = value
    if not is_integer(places) or places < 1 or not isinstance(weights, tuple) or len(weights) == 0:
        return False
    return all([is_below(weight, places) for weight in weights])


def checked_shelving(value, at):
    """The value, an argument with this index, as it is, if it is a shelving."""
    if not is_shelving(value):
        raise InvalidQuestion(at)
    return value


def shelf_machine(shelving):
    """The machine whose command 0 leads to the next shelf, and command 1 as many places on as the weight tells."""
    places, weights = checked_shelving(shelving, 0)
    states = places * len(weights)
    steps = []
    for shelf, weight in enumerate(weights):
        first = shelf * places
        for place in range(places):
            steps.append(((first + places + place) % states, first + (place + weight) % places))
    return Machine(2, steps)
