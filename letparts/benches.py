"""Benches: rows that are changed, change by change, and back."""

from letparts.checks import is_integer, need_row, need_sum
from letparts.errors import InvalidPart, NoSuchPart, NotLet
from letparts.exchange import exchanged
from letparts.games import rims
from letparts.heaps import dealt
from letparts.parts import turned_row
from letparts.rods import strikes
from letparts.splitting import fished, merged, split
from letparts.trials import Trial, undone
from letparts.turns import turned_over
from letparts.vectors import raises


class Bench:
    """A row that is changed."""

    def __init__(self, row):
        need_row(row)
        self.past = (row,)

    @property
    def now(self):
        """The row."""
        return self.past[-1]

    @property
    def changes(self):
        """How many changes can be taken back."""
        return len(self.past) - 1

    def _change(self, row):
        """The row becomes this one."""
        self.past += (row,)

    def _go(self, row, reached):
        """The row becomes this one, if it is one of those that can be reached."""
        if row not in reached:
            raise NotLet(row)
        self._change(row)

    def put(self, part):
        """A part comes to the row."""
        if not is_integer(part) or part < 1:
            raise InvalidPart(part)
        need_sum(sum(self.now) + part)
        self._change(tuple(sorted(self.now + (part,), reverse=True)))

    def take(self, part):
        """A part is taken from the row."""
        # True and False would be found among the parts, too.
        if not is_integer(part) or part not in self.now:
            raise NoSuchPart(part)
        at = self.now.index(part)
        self._change(self.now[:at] + self.now[at + 1:])

    def turn(self):
        """The row is turned."""
        self._change(turned_row(self.now))

    def deal(self):
        """The row is dealt."""
        self._change(dealt(self.now))

    def turn_over(self):
        """The row is turned over."""
        self._change(turned_over(self.now))

    def strike(self, row, rods):
        """The row is struck to this one."""
        need_row(row)
        self._go(row, strikes(self.now, rods))

    def exchange(self, rule, other):
        """The row, which the first rule lets, is exchanged for one that the second one lets."""
        self._change(exchanged(self.now, rule, other))

    def split(self, base):
        """The row is split."""
        self._change(split(self.now, base))

    def merge(self, base):
        """The row is merged."""
        self._change(merged(self.now, base))

    def fish(self):
        """The row is fished."""
        self._change(fished(self.now))

    def lift(self, row, rods):
        """The row is raised to this one."""
        need_row(row)
        self._go(row, raises(self.now, rods))

    def rim(self, row):
        """A rim is taken, so that this row is left."""
        need_row(row)
        self._go(row, rims(self.now))

    def undo(self):
        """Takes back the last change that has not been taken back."""
        self.past = undone(self.past)

    def trial(self):
        """For a `with` statement: if its rows end with an exception, the bench is as it was when they began."""
        return Trial(self)

    def tried(self, action):
        """What a function returns that is called with the bench within a trial."""
        with Trial(self) as held:
            return action(held)
