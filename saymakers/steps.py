"""Rows of steps: finding them, and looking whether they are right."""

from saymakers.kinds import is_number, is_number_below
from saymakers.premises import can_step, has_both, is_within, stepped


def found_steps(told, goal):
    """Steps from the told premises to one within the goal, each of use; None if there are none.

    Premises with a place on both sides lead nowhere that is not reached without them,
    so at most 3 ** places premises are gone through.
    """
    for premise in told:
        if is_within(premise, goal):
            return ()
    made = list(told)
    origins = [None for _ in told]
    seen = {}
    for at, premise in enumerate(told):
        if premise not in seen and not has_both(premise):
            seen[premise] = at
    queue = list(seen.values())
    done = []
    while queue:
        at = queue.pop(0)
        done.append(at)
        steps = _steps_with(made, done, at)
        for step in steps:
            premise = stepped(made[step[0]], made[step[1]], step[2])
            if premise in seen or has_both(premise):
                continue
            seen[premise] = len(made)
            queue.append(len(made))
            made.append(premise)
            origins.append(step)
            if is_within(premise, goal):
                return _steps_of_use(origins, len(told))
    return None


def _steps_with(made, done, at):
    """All steps of the premise with those that are done, itself too."""
    steps = []
    for other in done:
        steps.extend([(other, at, place) for place in made[other][1] if can_step(made[other], made[at], place)])
        steps.extend([(at, other, place) for place in made[at][1] if can_step(made[at], made[other], place)])
    return steps


def _steps_of_use(origins, many):
    """The steps that the last one hangs on, numbered anew behind the many told premises."""
    needed = {len(origins) - 1: True}
    for at in reversed(range(many, len(origins))):
        if at in needed:
            needed[origins[at][0]] = True
            needed[origins[at][1]] = True
    places = {at: at for at in range(many)}
    steps = []
    for at in range(many, len(origins)):
        if at in needed:
            one, other, place = origins[at]
            places[at] = many + len(steps)
            steps.append((places[one], places[other], place))
    return tuple(steps)


def brought(told, value):
    """All premises, the told ones and then what the steps bring; None if the value is no row of steps."""
    if not isinstance(value, tuple):
        return None
    made = list(told)
    for step in value:
        if not isinstance(step, tuple) or len(step) != 3:
            return None
        one, other, place = step
        if not is_number_below(one, len(made)) or not is_number_below(other, len(made)) or not is_number(place):
            return None
        if not can_step(made[one], made[other], place):
            return None
        made.append(stepped(made[one], made[other], place))
    return made
