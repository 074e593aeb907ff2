"""Communication: from which write each word comes, and whether that can be arranged into one order."""

from heapq import heapify, heappop, heappush
from litmuscore.accesses import is_success, stored_word, writes_to
from litmuscore.executions import preserved, require_valid
from litmuscore.runs import access_in, events_in, last_link, last_write, runs_of, sources_in


def communication_of(program, order, execution):
    """The communication of a valid execution."""
    require_valid(program, order, execution)
    choices, events = execution
    runs = runs_of(program, choices)
    found = sources_in(runs, events)
    sources = [(event, found[event]) for event in sorted(found)]
    writes = [
        tuple([event for event in events if writes_to(access_in(runs, event), address)])
        for address in range(len(program[2]))
    ]
    return (tuple(sources), tuple(writes))


def place_of(row, event):
    """The place of an event in a row of writes; -1 for the word at the start, which is before all of them."""
    return -1 if event is None else row.index(event)


def is_word_right(program, runs, event, source):
    """True if the event reads the word that its source stores, or the word at the start."""
    access = access_in(runs, event)
    if source is None:
        return access[2] == program[2][access[1]]
    return access[2] == stored_word(access_in(runs, source))


def is_load_right(runs, writes, event, source):
    """True if the source of a load is neither later in its own core nor before the last own write."""
    core, number = event
    access = access_in(runs, event)
    if access[0] != "load":
        return True
    if source is not None and source[0] == core and source[1] > number:
        return False
    own = last_write(runs[core], number, access[1])
    row = writes[access[1]]
    return own is None or place_of(row, source) >= place_of(row, (core, own))


def is_link_right(runs, writes, sources, event):
    """True unless the event is a store conditional that stores although another core has written since its link."""
    core, number = event
    access = access_in(runs, event)
    if not is_success(access):
        return True
    row = writes[access[1]]
    linked = place_of(row, sources[(core, last_link(runs[core], number))])
    between = row[linked + 1:place_of(row, event)]
    return all([other[0] == core for other in between])


def is_consistent(program, choices, communication):
    """True if the communication is consistent, otherwise False."""
    pairs, writes = communication
    runs = runs_of(program, choices)
    sources = {event: source for event, source in pairs}
    for event, source in pairs:
        if not is_word_right(program, runs, event, source) or not is_load_right(runs, writes, event, source):
            return False
    return all([is_link_right(runs, writes, sources, event) for event in events_in(runs)])


def following_source(runs, writes, event, source):
    """The pairs that an event that reads makes with its source and with the writes after its source."""
    access = access_in(runs, event)
    pairs = []
    if source is not None and (access[0] != "load" or source[0] != event[0]):
        pairs.append((source, event))
    row = writes[access[1]]
    for other in row[place_of(row, source) + 1:]:
        if other != event:
            pairs.append((event, other))
    return pairs


def must_follow(program, order, choices, communication):
    """The tuple of all pairs of events of which the second must follow the first, in ascending order."""
    sources, writes = communication
    runs = runs_of(program, choices)
    pairs = list(preserved(program, order, choices))
    for row in writes:
        for place, event in enumerate(row):
            pairs.extend([(event, other) for other in row[place + 1:]])
    for event, source in sources:
        pairs.extend(following_source(runs, writes, event, source))
    return tuple(sorted(set(pairs)))


def take_all(events, pairs):
    """The events that can be taken, in the order in which they are taken."""
    missing = {event: 0 for event in events}
    followers = {event: [] for event in events}
    for event, follower in pairs:
        missing[follower] += 1
        followers[event].append(follower)
    ready = [event for event in events if missing[event] == 0]
    heapify(ready)
    taken = []
    while ready:
        event = heappop(ready)
        taken.append(event)
        for follower in followers[event]:
            missing[follower] -= 1
            if missing[follower] == 0:
                heappush(ready, follower)
    return taken


def cycle_in(pairs, taken):
    """A cycle among the events that cannot be taken."""
    gone = {event: True for event in taken}
    before = {follower: event for event, follower in pairs if event not in gone}
    event = min(before)
    path = []
    # Each event that is left must follow another one that is left, so the way back never ends without a cycle.
    while event not in path:
        path.append(event)
        event = before[event]
    cycle = path[path.index(event):]
    cycle.reverse()
    return tuple(cycle)


def arrange(program, order, choices, communication):
    """All events in the order in which they are taken, or a cycle of events if not all can be taken."""
    pairs = must_follow(program, order, choices, communication)
    events = events_in(runs_of(program, choices))
    taken = take_all(events, pairs)
    if len(taken) == len(events):
        return ("order", tuple(taken))
    return ("cycle", cycle_in(pairs, taken))
