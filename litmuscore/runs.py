"""The runs of all cores together, and where the words come from that their events read.

Here `runs` is a list with the steps of each core, as the function run returns them.
"""

from litmuscore.accesses import is_read, is_write, writes_to
from litmuscore.programs import run


def runs_of(program, choices):
    """The list with the steps of each core, as far as the choices are possible."""
    return [run(program, core, choices[core]) for core in range(len(choices))]


def access_in(runs, event):
    """The access of an event."""
    return runs[event[0]][event[1]][1]


def events_in(runs):
    """The tuple of all events, in ascending order."""
    return tuple([
        (core, number)
        for core in range(len(runs))
        for number in range(len(runs[core]))
        if runs[core][number][1] is not None
    ])


def last_write(steps, number, address):
    """The number of the last step before this one that writes to the address, or None."""
    for earlier in reversed(range(number)):
        if writes_to(steps[earlier][1], address):
            return earlier
    return None


def last_link(steps, number):
    """The number of the last step before this one that is a load linked, or None."""
    for earlier in reversed(range(number)):
        access = steps[earlier][1]
        if access is not None and access[0] == "load linked":
            return earlier
    return None


def writes_in(runs):
    """For each core the tuple of its writes in the order of its steps, pairs of the step and the address."""
    return [
        tuple([
            (number, steps[number][1][1])
            for number in range(len(steps))
            if steps[number][1] is not None and is_write(steps[number][1])
        ])
        for steps in runs
    ]


def events_of_entries(written, history):
    """The events from which the entries of a history come; written has the writes of each core, as above."""
    rows = {}
    for core in range(len(written)):
        for number, address in written[core]:
            rows.setdefault((core, address), []).append((core, number))
    events = []
    # The stores of a core to one address never overtake each other.
    for core, address, _ in history:
        events.append(rows[(core, address)].pop(0))
    return events


def source_in(runs, taken, written, event):
    """The source of an event that reads, after the taken events; written has the last writes so far."""
    core, number = event
    access = access_in(runs, event)
    if access[0] == "load":
        own = last_write(runs[core], number, access[1])
        if own is not None and (core, own) not in taken:
            return (core, own)
    return written.get(access[1])


def sources_in(runs, events):
    """For each event that reads, its source if the events take effect in this order."""
    taken = {}
    written = {}
    sources = {}
    for event in events:
        access = access_in(runs, event)
        if is_read(access):
            sources[event] = source_in(runs, taken, written, event)
        if is_write(access):
            written[access[1]] = event
        taken[event] = True
    return sources
