"""Executions, and whether they are valid under a memory order."""

from litmuscore.accesses import is_atomic, is_read, is_success, is_write, stored_word, writes_to
from litmuscore.errors import InvalidExecution
from litmuscore.runs import access_in, events_in, last_link, runs_of, sources_in


def events_of(program, choices):
    """The tuple of all events, in ascending order."""
    return events_in(runs_of(program, choices))


def must_precede(order, former, latter, fences):
    """True if the former of two accesses of a core must precede the latter; fences has the kinds between them."""
    if is_atomic(latter) or order == "sc" or "full" in fences:
        return True
    if former[0] == "store" and latter[0] == "load":
        return False
    if former[1] == latter[1]:
        return True
    if former[0] == "store":
        return order == "tso" or "stores" in fences
    return latter[0] == "store" or order != "wmm" or "loads" in fences


def predecessors(order, steps, number):
    """The numbers of the steps whose events must precede the event of this step, in ascending order."""
    latter = steps[number][1]
    fences = {}
    found = []
    for earlier in reversed(range(number)):
        _, former, fence = steps[earlier]
        if former is not None and must_precede(order, former, latter, fences):
            found.append(earlier)
        if fence is not None:
            fences[fence] = True
    found.reverse()
    return found


def preserved(program, order, choices):
    """The tuple of all pairs of events of which the first must precede the second, in ascending order."""
    runs = runs_of(program, choices)
    pairs = []
    for core, number in events_in(runs):
        for earlier in predecessors(order, runs[core], number):
            pairs.append(((core, earlier), (core, number)))
    return tuple(sorted(pairs))


def run_violation(core, choices, steps):
    """The violation of the run of one core, or None."""
    if len(steps) < len(choices):
        return ("run", core, len(steps))
    if len(steps) == 0 or not steps[-1][0][2]:
        return ("unfinished", core)
    return None


def order_violation(order, runs, places, event):
    """The violation of the rule of order at an event, or None; places has the places of all events."""
    core, number = event
    for earlier in predecessors(order, runs[core], number):
        if places[(core, earlier)] > places[event]:
            return ("order", (core, earlier), event)
    return None


def is_value_wrong(program, runs, sources, event):
    """True if an event reads another word than that of its source."""
    access = access_in(runs, event)
    if not is_read(access):
        return False
    if sources[event] is None:
        return access[2] != program[2][access[1]]
    return access[2] != stored_word(access_in(runs, sources[event]))


def is_interrupted(runs, events, places, event):
    """True if another core writes between a load linked and a store conditional that succeeds."""
    core, number = event
    access = access_in(runs, event)
    if not is_success(access):
        return False
    linked = (core, last_link(runs[core], number))
    for other in events[places[linked] + 1:places[event]]:
        if other[0] != core and writes_to(access_in(runs, other), access[1]):
            return True
    return False


def event_violation(program, order, runs, events):
    """The first violation of the three rules for events, or None."""
    places = {event: place for place, event in enumerate(events)}
    sources = sources_in(runs, events)
    for event in events:
        violation = order_violation(order, runs, places, event)
        if violation is not None:
            return violation
        if is_value_wrong(program, runs, sources, event):
            return ("value", event)
        if is_interrupted(runs, events, places, event):
            return ("atomicity", event)
    return None


def check(program, order, execution):
    """None if the execution is valid under the order, otherwise its violation."""
    choices, events = execution
    if len(choices) != len(program[1]):
        return ("cores",)
    runs = runs_of(program, choices)
    for core in range(len(choices)):
        violation = run_violation(core, choices[core], runs[core])
        if violation is not None:
            return violation
    if tuple(sorted(events)) != events_in(runs):
        return ("events",)
    return event_violation(program, order, runs, events)


def require_valid(program, order, execution):
    """Raise InvalidExecution if the execution is not valid under the order."""
    violation = check(program, order, execution)
    if violation is not None:
        raise InvalidExecution(violation)


def outcome(program, order, execution):
    """The states of the cores and the words of memory at the end of a valid execution."""
    require_valid(program, order, execution)
    choices, events = execution
    runs = runs_of(program, choices)
    memory = list(program[2])
    for event in events:
        access = access_in(runs, event)
        if is_write(access):
            memory[access[1]] = stored_word(access)
    return (tuple([steps[-1][0] for steps in runs]), tuple(memory))
