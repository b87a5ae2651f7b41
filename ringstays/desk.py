"""Desks, at which a source is inlined deed by deed: point [184]."""

from ringstays.bodies import Bodies
from ringstays.errors import HasFoldings, InvalidMode, NothingToRedo, NothingToUndo
from ringstays.flat import Flat
from ringstays.passes import apply_pass, pass_log
from ringstays.skips import skipped
from ringstays.source import program_of
from ringstays.steps import fold_call, inline_call
from ringstays.values import is_mode


class Desk:
    """A source with bodies of its program, and the deeds that made them."""

    def __init__(self, source):
        self._source = source
        # For each deed, and for the beginning, the bodies behind it, the items that it adds to
        # the journal, and whether these are the whole journal.
        self._states = [(Bodies(program_of(source)), [], True)]
        self._at = 0

    def source(self):
        return self._source

    def bodies(self):
        """The bodies as they are now."""
        return self._states[self._at][0]

    def flat(self):
        """The flat program of the source with these bodies."""
        return Flat(self._source, self.bodies())

    def journal(self):
        """The steps that make the bodies of the original ones."""
        start = self._at
        while not self._states[start][2]:
            start -= 1
        return [item for _, items, _ in self._states[start:self._at + 1] for item in items]

    def inline(self, function, path, mode="now"):
        """Inline a call."""
        if not is_mode(mode):
            raise InvalidMode(mode)
        behind = inline_call(self.bodies(), function, path, original=mode == "first")
        self._put(behind, [("inline", function, path, mode)], False)

    def fold(self, function, path):
        """Fold an inlined call."""
        behind = fold_call(self.bodies(), function, path)
        self._put(behind, [("fold", function, path)], False)

    def run_pass(self, one):
        """Do a pass."""
        behind = apply_pass(self.bodies(), one)
        items = [("inline", function, path, mode) for function, path, mode in pass_log(self.bodies(), one)]
        if items:
            self._put(behind, items, False)

    def skip(self, indexes):
        """Skip steps of the journal."""
        journal = self.journal()
        for at, item in enumerate(journal):
            if item[0] == "fold":
                raise HasFoldings(at)
        behind, done = skipped(Bodies(self.bodies().program), [item[1:] for item in journal], indexes)
        if len(done) < len(journal):
            self._put(behind, [journal[at] for at in done], True)

    def undo(self):
        """Take back the last deed that has not been taken back."""
        if self._at == 0:
            raise NothingToUndo()
        self._at -= 1

    def redo(self):
        """Do the deed again that was taken back last."""
        if self._at + 1 == len(self._states):
            raise NothingToRedo()
        self._at += 1

    def _put(self, bodies, items, are_all):
        """Put a deed behind those that have not been taken back."""
        del self._states[self._at + 1:]
        self._states.append((bodies, items, are_all))
        self._at += 1
