"""A bench, on which a rig is changed step by step."""
from stillarms.arms import is_place
from stillarms.changes import apply_change, apply_changes, kept_change
from stillarms.errors import NothingDone
from stillarms.wishes import holds_all


class Bench:
    """A rig with the changes that have been made and not taken back."""

    def __init__(self, rig):
        self.rig = rig
        self._changes = []
        # The rigs before each of the changes.
        self._before = []

    def __len__(self):
        return len(self._changes)

    def __contains__(self, place):
        # A list is equal to no place of the rig, but True is equal to 1 and no number.
        if not is_place(self.rig.arms, place):
            return False
        ends = [end for one, other, _ in self.rig.springs for end in (one, other)]
        return place in [hung for hung, _ in self.rig.weights] + ends

    def make(self, change):
        behind = apply_change(self.rig, change)
        self._changes.append(kept_change(change))
        self._before.append(self.rig)
        self.rig = behind

    def undo(self):
        if self._changes == []:
            raise NothingDone()
        self.rig = self._before.pop()
        return self._changes.pop()

    @property
    def made(self):
        return tuple(self._changes)

    def holds(self, *wishes):
        return holds_all(self.rig, wishes)

    def trial(self, *changes, wishes=(("still",),)):
        return holds_all(apply_changes(self.rig, changes), wishes)

    def stages(self):
        for rig in self._before + [self.rig]:
            yield rig
