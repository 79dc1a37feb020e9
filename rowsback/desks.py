"""Desks, on which rows are edited: steps put and dropped, names given to steps, edits taken back and done again."""

from rowsback.bounds import BATCH, MAX_EDITS, MAX_ENDS, MAX_LETTERS
from rowsback.errors import BadBatch, BadPoint, BadRow, Changed, Full, NoName, NoStep, NothingDone, NothingUndone
from rowsback.errors import Rejected, RowError, TooLong, Unfit
from rowsback.kinds import is_within
from rowsback.rates import rates_at
from rowsback.rows import is_point, row_error, values
from rowsback.sames import polys
from rowsback.texts import head_lines

LETTERS = "abcdefghijklmnopqrstuvwxyz"
# The words of the edits, and how many arguments each has.
EDITS = {"add": 1, "put": 2, "drop": 0, "label": 2, "unlabel": 1}


def _is_name(value):
    """Return whether the value has the form of a name."""
    if not isinstance(value, str) or not 1 <= len(value) <= MAX_LETTERS:
        return False
    return all([letter in LETTERS for letter in value])


def _is_batch(value):
    """Return whether the value is a tuple of edits, with as many arguments as each of them has."""
    if not isinstance(value, tuple) or len(value) > BATCH:
        return False
    return all([_is_edit(edit) for edit in value])


def _is_edit(value):
    # Only a string is looked up: other values may not serve as keys.
    if not isinstance(value, tuple) or not value or not isinstance(value[0], str):
        return False
    return value[0] in EDITS and len(value) == 1 + EDITS[value[0]]


def _poly_at(inputs, steps, number):
    """Return the polynomial of the step with this number."""
    return polys((inputs, steps, (number,)))[0]


class Desk:
    """A row that is edited; its ends are the steps that have names."""

    # All that is held is made of tuples that are put in the place of one
    # another: so the desk can be set back to whatever it once held.

    def __init__(self, value):
        error = row_error(value)
        if error is not None:
            raise BadRow(error)
        inputs, steps, ends = value
        self._inputs = inputs
        self._steps = steps
        self._ends = tuple([(LETTERS[index], end) for index, end in enumerate(ends)])
        self._names = tuple([name for name, _ in self._ends])
        # Layouts, pairs (steps, ends): those ahead of each edit that stands,
        # those that were taken back, and the one ahead of the last change.
        self._done = ()
        self._undone = ()
        self._ahead = None

    @property
    def inputs(self):
        return self._inputs

    @property
    def steps(self):
        return self._steps

    @property
    def ends(self):
        return self._ends

    @property
    def version(self):
        return len(self._done)

    def __len__(self):
        return len(self._steps)

    def __contains__(self, x):
        return x in self._names

    def __getitem__(self, at):
        return self._number_of(at)

    def __iter__(self):
        return iter(self._names)

    def __eq__(self, other):
        return (isinstance(other, Desk) and self._inputs == other._inputs and self._steps == other._steps
                and self._ends == other._ends)

    def __str__(self):
        return "\n".join(self._lines())

    def _lines(self):
        labels = [f"label {name} {number}" for name, number in self._ends]
        return head_lines(self._inputs, self._steps) + labels

    def _number_of(self, name):
        """Return the number of the step that has the name."""
        for known, number in self._ends:
            if known == name:
                return number
        raise NoName(name)

    def row(self):
        """Return the row whose ends are the steps that have names."""
        if not self._ends:
            raise Unfit()
        return (self._inputs, self._steps, tuple([number for _, number in self._ends]))

    def told(self, point):
        """Return the pairs of the names and the values of their steps at the point."""
        reached = values(self._row_at(0, point), point)
        return tuple([(name, reached[number]) for name, number in self._ends])

    def rates(self, name, point):
        """Return the rates at the point, by all inputs, of the step that has the name."""
        return rates_at(self._row_at(self._number_of(name), point), point)[0]

    def _row_at(self, number, point):
        """Return the row with this one end, of which the point must be one."""
        row = (self._inputs, self._steps, (number,))
        if not is_point(row, point):
            raise BadPoint(point)
        return row

    def poly(self, name):
        """Return the polynomial of the step that has the name."""
        return _poly_at(self._inputs, self._steps, self._number_of(name))

    def add(self, step):
        """Put the step behind the others; return the new version."""
        return self._edit(self._fitting(self._steps + (step,)), self._ends)

    def put(self, number, step):
        """Put the step in the place of the one with this number; return the new version."""
        self._must_be_step(number)
        return self._edit(self._fitting(self._steps[:number] + (step,) + self._steps[number + 1:]), self._ends)

    def drop(self):
        """Take the last step away; return the new version."""
        last = len(self._steps) - 1
        if last == 0 or last in [number for _, number in self._ends]:
            raise Unfit()
        return self._edit(self._steps[:last], self._ends)

    def label(self, name, number):
        """Give the name to the step with this number; return the new version."""
        if not _is_name(name):
            raise NoName(name)
        self._must_be_step(number)
        if name not in self._names and len(self._names) >= MAX_ENDS:
            raise TooLong()
        others = [pair for pair in self._ends if pair[0] != name]
        return self._edit(self._steps, tuple(sorted(others + [(name, number)])))

    def unlabel(self, name):
        """Take the name away; return the new version."""
        self._number_of(name)
        return self._edit(self._steps, tuple([pair for pair in self._ends if pair[0] != name]))

    def _fitting(self, steps):
        """Return the steps, which must be those of a row."""
        error = row_error((self._inputs, steps, (0,)))
        if error is not None:
            raise BadRow(error)
        return steps

    def _must_be_step(self, number):
        if not is_within(number, 0, len(self._steps) - 1):
            raise NoStep(number)

    def _edit(self, steps, ends):
        """Let an edit lead to these steps and ends; return the new version."""
        if len(self._done) >= MAX_EDITS:
            raise Full()
        self._turn_to((steps, ends), self._done + (self._layout(),), ())
        return len(self._done)

    def undo(self):
        """Take back the last edit that stands."""
        if not self._done:
            raise NothingDone()
        self._turn_to(self._done[-1], self._done[:-1], self._undone + (self._layout(),))

    def redo(self):
        """Do the edit again that was taken back last and is not done again."""
        if not self._undone:
            raise NothingUndone()
        self._turn_to(self._undone[-1], self._done + (self._layout(),), self._undone[:-1])

    def _layout(self):
        return (self._steps, self._ends)

    def _turn_to(self, layout, done, undone):
        """Let an edit, an undo or a redo lead to this layout."""
        self._look_at(layout)
        self._put_back((layout, done, undone, self._layout()))

    def _look_at(self, layout):
        """Raise an error if the desk may not come to this layout: a plain desk may come to all."""

    def _all_held(self):
        """Return all that changes, for _put_back."""
        return (self._layout(), self._done, self._undone, self._ahead)

    def _put_back(self, held):
        layout, self._done, self._undone, self._ahead = held
        self._steps, self._ends = layout
        self._names = tuple([name for name, _ in self._ends])

    def batch(self, edits):
        """Do all the edits, in order, or none of them; return the version then."""
        if not _is_batch(edits):
            raise BadBatch()
        held = self._all_held()
        for index, edit in enumerate(edits):
            try:
                self._do(edit)
            except RowError:
                self._put_back(held)
                raise Rejected(index) from None
        return len(self._done)

    def _do(self, edit):
        word = edit[0]
        if word == "add":
            self.add(edit[1])
        elif word == "put":
            self.put(edit[1], edit[2])
        elif word == "drop":
            self.drop()
        elif word == "label":
            self.label(edit[1], edit[2])
        else:
            self.unlabel(edit[1])

    def attempt(self, work):
        """Return what work(self) returns; if that raises a RowError, the desk is as it was ahead."""
        held = self._all_held()
        try:
            return work(self)
        except RowError:
            self._put_back(held)
            raise

    def news(self):
        """Return the names that came, went, or stand for another polynomial since the last change."""
        if self._ahead is None:
            return ()
        steps, ends = self._ahead
        before, now = dict(ends), dict(self._ends)
        found = []
        for name in sorted(set(list(before) + list(now))):
            if name not in before or name not in now:
                found.append(name)
            elif _poly_at(self._inputs, steps, before[name]) != self.poly(name):
                found.append(name)
        return tuple(found)

    def copy(self):
        """Return a desk that holds the same; neither changes with the other."""
        made = Desk((self._inputs, self._steps, (0,)))
        made._put_back(self._all_held())
        return made


def nameless_desk(inputs):
    """Return a desk with so many inputs, the step ("set", 0), no name and no edits."""
    made = Desk((inputs, (("set", 0),), (0,)))
    made._put_back(((made.steps, ()), (), (), None))
    return made


class KeptDesk(Desk):
    """A desk on which some names must go on standing for the polynomials that they stand for at first."""

    def __init__(self, value, names):
        super().__init__(value)
        if not isinstance(names, tuple) or not all([name in self for name in names]):
            raise NoName(names)
        if not all([low < high for low, high in zip(names, names[1:])]):
            raise NoName(names)
        self._kept = names
        self._wanted = tuple([self.poly(name) for name in names])

    @property
    def kept(self):
        return self._kept

    def __str__(self):
        return "\n".join(self._lines() + [" ".join(["kept"] + list(self._kept))])

    def _look_at(self, layout):
        steps, ends = layout
        numbers = dict(ends)
        for name, poly in zip(self._kept, self._wanted):
            if name not in numbers or _poly_at(self._inputs, steps, numbers[name]) != poly:
                raise Changed(name)

    def copy(self):
        """Return a desk that holds the same, with the same names kept; neither changes with the other."""
        made = KeptDesk((self._inputs, self._steps, (0,)), ())
        made._kept = self._kept
        made._wanted = self._wanted
        made._put_back(self._all_held())
        return made
