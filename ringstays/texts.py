"""Bodies as texts: point [26]."""

from ringstays.bodies import Bodies, body_calls
from ringstays.errors import InvalidCalls, InvalidInlined, InvalidText, TooMany
from ringstays.programs import Program
from ringstays.values import MOST_INLINED

FUNCTIONS = {"0": 0, "1": 1, "2": 2, "3": 3, "4": 4, "5": 5, "6": 6, "7": 7}


def write_bodies(bodies):
    """The text of the bodies."""
    program = bodies.program
    return "; ".join([_write_body(program, function, row) for function, row in enumerate(bodies.inlined)])


def _write_body(program, function, row):
    parts = [f"{function}:"]
    depth = 0
    for place, _, callee, inlined in body_calls(program, function, row):
        parts.append("]" * (depth - len(place)))
        depth = len(place)
        if inlined:
            parts.append(f" [{callee}")
            depth += 1
        else:
            parts.append(f" {callee}")
    parts.append("]" * depth)
    return "".join(parts)


def read_bodies(text):
    """The Bodies of which write_bodies makes this text."""
    bodies = _read(text) if isinstance(text, str) else None
    # What is read is not judged further: a text is right if it is just what is written again.
    if bodies is None or write_bodies(bodies) != text:
        raise InvalidText(text)
    return bodies


def _read(text):
    """The bodies that the text tells, if it tells some."""
    calls, inlined = [], []
    for part in text.split("; "):
        told = _read_body(part.split(" ")[1:])
        if told is None:
            return None
        calls.append(told[0])
        inlined.append(told[1])
    try:
        return Bodies(Program(calls), inlined)
    except (InvalidCalls, InvalidInlined, TooMany):
        return None


def _read_body(words):
    """The callees and the inlined paths that the words behind a colon tell, if they tell some."""
    callees, inlined = [], []
    # For the body and each bracket that is not closed: its path, and how many calls it has so far.
    places, counts = [()], [0]
    for word in words:
        callee = FUNCTIONS.get(word.removeprefix("[").rstrip("]"))
        # Paths of a text without end would take memory without end.
        if callee is None or len(inlined) > MOST_INLINED:
            return None
        path = places[-1] + (counts[-1],)
        counts[-1] += 1
        if len(path) == 1:
            callees.append(callee)
        if word.startswith("["):
            inlined.append(path)
            places.append(path)
            counts.append(0)
        left = len(places) - (len(word) - len(word.rstrip("]")))
        if left < 1:
            return None
        del places[left:]
        del counts[left:]
    return callees, inlined
