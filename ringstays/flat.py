"""Flat programs, sources with inlined calls written out: point [181]."""

from ringstays.brackets import Writer
from ringstays.errors import OtherProgram, TooNested
from ringstays.source import Source, program_of

MOST_NESTED = 40


class Flat:
    """A source in which rows stand in the place of inlined calls.

    Beside it are the program of the source that it was made of, and for each function the paths of
    its brackets by their numbers, and a dict with the number of the bracket of each row's position.
    """

    def __init__(self, source, bodies):
        self.program = program_of(source)
        if bodies.program != self.program:
            raise OtherProgram(bodies)
        writers = [_written_function(source, function, row) for function, row in enumerate(bodies.inlined)]
        self.source = Source([(writer.written_names(), writer.rows) for writer in writers])
        self.paths = [writer.paths for writer in writers]
        self.numbers = [writer.numbers for writer in writers]


def _written_function(source, function, row):
    """The writer of a function in which these paths are inlined, behind its work."""
    if any([len(path) > MOST_NESTED for path in row]):
        raise TooNested(function)
    writer = Writer(source, function, row)
    writer.write()
    return writer


def flat(source, bodies):
    """The flat program of a source with these bodies of its program."""
    return Flat(source, bodies)
