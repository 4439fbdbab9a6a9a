"""Tables: changes by their numbers, so that what comes about by following and by powers is looked up."""

from math import gcd, lcm

from batchnumbers.changes import command_changes, first_unlike, numbered


class Table:
    """The changes that are made of some makers, numbered as they are found; the idle one has the number 0."""

    def __init__(self, states, makers):
        numbers, ahead, rows = numbered(states, makers)
        self.makers = makers
        self.changes = list(numbers)
        self.ahead = ahead
        self.rows = rows
        self.rounds = self._found_rounds()

    def _found_rounds(self):
        """For each number a list of all powers of some change, 0 ahead, and the place where the number stands."""
        rounds = [None] * len(self.rows)
        for number, row in enumerate(self.rows):
            if rounds[number] is None:
                powers = [0]
                at = number
                while at != 0:
                    powers.append(at)
                    at = self.walk(at, row)
                for place, power in enumerate(powers):
                    if rounds[power] is None:
                        rounds[power] = (powers, place)
        return rounds

    def walk(self, start, row):
        """The number of the change with the number `start` followed by a row of makers' indexes."""
        at = start
        for index in row:
            at = self.ahead[index][at]
        return at

    def _all_followed_by(self, number):
        """The numbers of all changes followed by the one with this number."""
        out = list(range(len(self.rows)))
        for index in self.rows[number]:
            step = self.ahead[index]
            out = [step[at] for at in out]
        return out

    def powers(self, count):
        """The numbers of the powers of all changes."""
        return [powers[place * count % len(powers)] for powers, place in self.rounds]

    def order(self, number):
        """The least count from 1 on whose power is idle."""
        powers, place = self.rounds[number]
        return len(powers) // gcd(place, len(powers))

    def first_powers(self, number, many):
        """The changes that are the powers with the counts from 0 on, so many of them."""
        powers, place = self.rounds[number]
        return [self.changes[powers[place * count % len(powers)]] for count in range(many)]

    def common_order(self):
        """The least common multiple of the orders of all changes."""
        least = 1
        for powers, _ in self.rounds:
            least = lcm(least, len(powers))
        return least

    def fault(self, count):
        """A number and the index of a maker whose changes' loops the count does not split, None if there are none."""
        powers = self.powers(count)
        # If all loops that end with a maker are split, so are those that end with several makers.
        for index, step in enumerate(self.ahead):
            last = self._all_followed_by(powers[step[0]])
            together = [powers[at] for at in step]
            apart = [last[at] for at in powers]
            if together != apart:
                return first_unlike(together, apart), index
        return None

    def splits(self, count):
        """Whether the count splits all loops."""
        return self.fault(count) is None


def table_of(machine):
    """The table of all changes of a machine, made of its commands."""
    return Table(machine.states, command_changes(machine))
