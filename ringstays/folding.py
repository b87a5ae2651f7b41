"""Foldings done as long as any can be, on which points [105], [111] and [131] rest."""

from ringstays.bodies import count_inlined, original_rows, with_row
from ringstays.places import Places


class Folder:
    """Bodies while they are folded, with the original bodies of a group kept.

    `rows` has what is left, and `steps` the foldings done so far. With `allowed`, a dict whose
    keys are tuples (function, path), just these paths are folded.
    """

    def __init__(self, program, inlined, group, allowed=None):
        self.program, self.group, self.allowed = program, group, allowed
        self.rows, self.steps = inlined, []
        # Shapes [places.py] have numbers here that stay, and `present` are those of the present bodies.
        self._numbers = {}
        self.present = [None] * len(program)

    def fold_all(self):
        # In the first round not all present bodies have numbers.
        self._fold_round()
        count = None
        while count != len(self.steps):
            count = len(self.steps)
            self._fold_round()

    def is_done(self):
        """Whether just the original bodies are left."""
        return count_inlined(self.rows) == 0

    def _fold_round(self):
        for function in range(len(self.program)):
            self._fold_body(function)

    def _fold_body(self, function):
        """Fold what can be folded in one body, with the others as they are."""
        row = self.rows[function]
        places = Places(self.program, with_row(original_rows(self.program), function, row))
        top = places.tops[function]
        # An open call leads to a top, which has no number yet; a folded path counts as such a call.
        shapes = [-1] * len(places.leads)
        left = []
        # What is behind a place comes first, so no folding here takes another one's place away.
        for place in range(top + len(row), top, -1):
            parts = [shapes[behind] for behind in places.leads[place]]
            shape = self._number(places.standing[place], parts)
            mode = self._mode_of(places, place, shape, parts)
            path = places.paths[place][1]
            if mode is None:
                shapes[place] = shape
                left.append(path)
            else:
                self.steps.append((function, path, mode))
                # What is left behind the path stands last, and has more calls.
                while left and len(left[-1]) > len(path):
                    left.pop()
        self.rows = with_row(self.rows, function, tuple(left[::-1]))
        self.present[function] = self._number(function, [shapes[behind] for behind in places.leads[top]])

    def _number(self, function, parts):
        return self._numbers.setdefault((function, *parts), len(self._numbers))

    def _mode_of(self, places, place, shape, parts):
        """The mode by which the place can be folded, None if it cannot."""
        if self.allowed is not None and places.paths[place] not in self.allowed:
            return None
        callee = places.standing[place]
        if shape == self.present[callee]:
            return "now"
        if callee in self.group and all([part == -1 for part in parts]):
            return "first"
        return None

