"""Bodies made from the lowest components of the program up: point [153]."""

from ringstays.bodies import Bodies
from ringstays.errors import InlineError, NotFromBelow
from ringstays.groups import all_led_to, components, within
from ringstays.logs import apply_log
from ringstays.places import Places, is_part
from ringstays.reaching import reach, witness


def _all_below(program):
    """For each function the list of the functions below it."""
    led = [all_led_to(program, function) for function in range(len(program))]
    return [[other for other in row if function not in led[other]] for function, row in enumerate(led)]


def _blocks(places, below, function):
    """The ascending list of the places of the function's body at which blocks begin."""
    found = []
    # With each place comes the one of the body that its block shows, None outside of all blocks.
    pairs = [(places.tops[function], None)]
    while pairs:
        place, shown = pairs.pop()
        for call, behind in enumerate(places.leads[place]):
            if places.at_top[behind]:
                continue
            following = None if shown is None else places.leads[shown][call]
            if shown is None and places.standing[behind] in below[function]:
                following = places.top_below(behind)
            # An open call of the body shown leads to the top of its callee, where the next block begins.
            if following is not None and places.at_top[following]:
                found.append(behind)
            pairs.append((behind, following))
    return sorted(found)


def below_defect(bodies):
    """What tells that no log from below makes the bodies, None if one does."""
    found = witness(bodies)
    if found is not None:
        return "unreachable", found
    places, below = Places(bodies.program, bodies.inlined), _all_below(bodies.program)
    for function in range(len(bodies.program)):
        for place in _blocks(places, below, function):
            if not is_part(places, places, place):
                return "block", function, places.paths[place][1]
    return None


def log_from_below(bodies):
    """A log that makes the bodies with all steps of a function behind those of the functions below it."""
    defect = below_defect(bodies)
    if defect is not None:
        raise NotFromBelow(defect)
    program = bodies.program
    places, below, cycling = Places(program, bodies.inlined), _all_below(program), components(program)
    log = []
    for part in _parts_from_below(program, cycling):
        # Within a component the bodies are made as if it had no calls of functions below; all
        # bodies below are as they stay by now, so what they have behind these calls comes last.
        if part in cycling:
            log.extend(reach(within(bodies, part)))
        for function in part:
            log.extend([(function, places.paths[place][1], "now") for place in _blocks(places, below, function)])
    return log


def _parts_from_below(program, cycling):
    """The components, and the other functions each by itself, those below ahead of the others."""
    counted = []
    for function in range(len(program)):
        led = all_led_to(program, function)
        # It leads to all to which one below it leads, and by the empty path to itself, as that one does not.
        if function not in led:
            counted.append((len(led) + 1, [function]))
    counted.extend([(len(all_led_to(program, part[0])), part) for part in cycling])
    return [part for _, part in sorted(counted)]


def is_from_below(bodies, value):
    """Whether any value is a log that makes the bodies from below."""
    try:
        if apply_log(Bodies(bodies.program), value) != bodies:
            return False
    except InlineError:
        return False
    below = _all_below(bodies.program)
    started = {}
    for function, _, mode in value:
        started[function] = True
        if mode != "now" or any([function in below[other] for other in started]):
            return False
    return True
