"""Counts that are all batch numbers only where the order of commands never matters."""

from batchnumbers.basics import check_integers, is_ascending, is_below
from batchnumbers.following import lot_of


def forces(counts):
    """Whether in each machine of which all the counts are batch numbers order never matters."""
    return lot_of(counts) == ()


def least_forcing(counts):
    """None, or some indexes of counts that force, while without any one of them they do not."""
    if not forces(counts):
        return None
    kept = list(range(len(counts)))
    # Who cannot be left out now cannot be left out of fewer counts either.
    for left in range(len(counts)):
        fewer = [at for at in kept if at != left]
        if _force_at(counts, fewer):
            kept = fewer
    return tuple(kept)


def is_least_forcing(counts, value):
    """Whether a value is an ascending tuple of such indexes."""
    check_integers(counts, 0)
    if not isinstance(value, tuple) or not all([is_below(at, len(counts)) for at in value]):
        return False
    if not is_ascending(value) or not _force_at(counts, value):
        return False
    return not any([_force_at(counts, [at for at in value if at != left]) for left in value])


def _force_at(counts, indexes):
    """Whether the counts with these indexes force."""
    return forces([counts[at] for at in indexes])
