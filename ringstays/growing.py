"""Bodies while steps are done on them, on which points [151] and [152] rest."""

from ringstays.bodies import holds
from ringstays.programs import led_to
from ringstays.steps import rows_inlined


class Growth:
    """Bodies that grow step by step: `rows` is what is inlined by now, `log` the steps done."""

    def __init__(self, bodies):
        self.program, self.rows, self.log = bodies.program, bodies.inlined, []

    def inline(self, function, path):
        """Inline an open call with the present body of its callee, a self call with the original body."""
        mode = "first" if led_to(self.program, function, path) == function else "now"
        self.rows = rows_inlined(self.program, self.rows, function, path, mode == "first")
        self.log.append((function, path, mode))

    def first_open(self, function, path):
        """The path of the first open call of a path in the function's body, None if the path is inlined."""
        return first_open(self.rows[function], path)


def first_open(row, path):
    """The least beginning of the path, or the path, that is not in the row, None if there is none."""
    for length in range(1, len(path) + 1):
        if not holds(row, path[:length]):
            return path[:length]
    return None
