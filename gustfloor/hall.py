"""Halls: a floor with marked places, through changes, undo and redo."""

from gustfloor.deeds import are_gentle, check_deeds, scene_behind
from gustfloor.errors import InvalidLimit, NothingLeft, UnknownMark
from gustfloor.planes import is_name
from gustfloor.ratios import is_number
from gustfloor.reaching import can_reach


class Hall:
    """A floor with marks, the steps that led to it, and the answers that are kept.

    A step is the tuple (gentle, before, after) of whether all of its deeds are gentle, and of two scenes. Scenes are
    never changed, so that steps can be kept, and shared with twins.
    """

    MOST = 40

    def __init__(self, floor, *, limit=20):
        self._floor = floor
        self._marks = {}
        self._busy = False
        self._computed = 0
        self._answers = {}
        self._done = []
        self._undone = []
        self.set_limit(limit)

    @staticmethod
    def with_marks(floor, marks, limit):
        """A hall without steps that has marks, given as the dict of the places by their names."""
        hall = Hall(floor, limit=limit)
        hall._marks = marks
        return hall

    @property
    def floor(self):
        return self._floor

    @property
    def limit(self):
        return self._limit

    @limit.setter
    def limit(self, value):
        self.set_limit(value)

    @property
    def busy(self):
        return self._busy

    @property
    def computed(self):
        return self._computed

    def set_limit(self, value):
        """Makes a value the limit; raises InvalidLimit(value)."""
        if not is_number(value) or value < 1 or value > Hall.MOST or value < len(self._marks):
            raise InvalidLimit(value)
        self._limit = value

    def enter(self, scene, gentle):
        """Makes a scene the state of the hall, and drops the answers that it may change."""
        floor, marks = scene
        stays = gentle or floor == self._floor
        before = self._marks
        kept = [name for name in before if stays and name in marks and marks[name] == before[name]]
        self._answers = {
            pair: answer for pair, answer in self._answers.items() if pair[0] in kept and pair[1] in kept
        }
        self._floor = floor
        self._marks = marks

    def apply(self, *deeds):
        """Applies all deeds, in their order, as one step, or none of them if an error is raised."""
        check_deeds(deeds)
        if not deeds:
            return
        before = (self._floor, self._marks)
        self._busy = True
        try:
            after = scene_behind(before, deeds, self._limit)
        finally:
            self._busy = False
        gentle = are_gentle(deeds)
        self.enter(after, gentle)
        self._done.append((gentle, before, after))
        self._undone = []

    def undo(self):
        """Undoes the last step; raises NothingLeft."""
        if not self._done:
            raise NothingLeft()
        step = self._done.pop()
        self._undone.append(step)
        self.enter(step[1], step[0])

    def redo(self):
        """Redoes the step that was undone last; raises NothingLeft."""
        if not self._undone:
            raise NothingLeft()
        step = self._undone.pop()
        self._done.append(step)
        self.enter(step[2], step[0])

    def history(self):
        """The numbers of the steps that can be undone and redone."""
        return len(self._done), len(self._undone)

    def marks(self):
        """The ascending list of the pairs (name, place)."""
        return [(name, self._marks[name]) for name in sorted(list(self._marks))]

    def place(self, name):
        """The place of a mark; raises UnknownMark(name) for any value that is the name of none."""
        if name not in self:
            raise UnknownMark(name)
        return self._marks[name]

    def asked(self, one, other):
        """Whether the place of the second mark can be reached from that of the first one; the answer is kept."""
        start, goal = self.place(one), self.place(other)
        if (one, other) not in self._answers:
            self._answers[one, other] = can_reach(self._floor, start, goal)[0]
            self._computed += 1
        return self._answers[one, other]

    def kept_pairs(self):
        """The ascending list of the pairs of names whose answers are kept."""
        return sorted(list(self._answers))

    def twin(self):
        """An independent hall in the same state."""
        other = Hall.with_marks(self._floor, self._marks, self._limit)
        other._computed = self._computed
        other._answers = {pair: self._answers[pair] for pair in self._answers}
        other._done = list(self._done)
        other._undone = list(self._undone)
        return other

    def __contains__(self, name):
        return is_name(name) and name in self._marks

    def __len__(self):
        return len(self._marks)

    def __eq__(self, other):
        return isinstance(other, Hall) and self._floor == other._floor and self._marks == other._marks

    def __repr__(self):
        return f"Hall({len(self._marks)} marks)"
