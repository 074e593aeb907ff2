"""Traces: explorations that remember the choices, and from which write each word came.

Here `written` has for each core the tuple of its writes so far, as writes_in tells them; it stands beside a trace,
since it follows from the choices, but only slowly.
"""

from litmuscore.accesses import is_read, is_write
from litmuscore.buffers import newest_word
from litmuscore.exploring import explored
from litmuscore.history import first_situation, is_final
from litmuscore.outcomes import moves_after
from litmuscore.programs import step
from litmuscore.runs import events_of_entries
from litmuscore.tuples import with_item


def entry_found(history, core, address, time):
    """The index of the entry whose word the core finds at the time beyond its buffer; None for the start."""
    for index in reversed(range(len(history))):
        writer, target, _ = history[index]
        if target == address and (index < time or writer == core):
            return index
    return None


def source_of(situation, written, core, address, time):
    """The event whose word the core finds at the address at the time, or None for the word at the start."""
    history, views = situation
    if newest_word(views[core][1], address) is not None:
        return (core, max([number for number, target in written[core] if target == address]))
    index = entry_found(history, core, address, time)
    if index is None:
        return None
    return events_of_entries(written, history)[index]


def after_step(program, trace, written, move, after):
    """The trace, and the writes, after a step move that leads to the situation after."""
    situation, choices, sources = trace
    _, core, choice, time = move
    number = len(choices[core])
    access = step(program, situation[1][core][0], choice)[1]
    if access is not None and is_read(access):
        if access[0] != "load":
            time = len(situation[0])
        source = source_of(situation, written, core, access[1], time)
        sources = tuple(sorted([*sources, ((core, number), source)]))
    if access is not None and is_write(access):
        written = with_item(written, core, written[core] + ((number, access[1]),))
    return ((after, with_item(choices, core, choices[core] + (choice,)), sources), written)


def traces_after(program, order, trace, written):
    """The list of the tried moves in the situation of a trace, each with the trace and the writes after it."""
    pairs = []
    for move, after in moves_after(program, order, trace[0]):
        if move[0] == "step":
            pairs.append((move, after_step(program, trace, written, move, after)))
        else:
            pairs.append((move, ((after, trace[1], trace[2]), written)))
    return pairs


def explored_traces(program, order, limit):
    """The traces that are found, in order, each with its writes."""
    empty = tuple([() for _ in program[1]])
    first = ((first_situation(program), empty, ()), empty)
    found, _ = explored(first, lambda pair: traces_after(program, order, pair[0], pair[1]), limit)
    return found


def explore_traces(program, order, *, limit=2000):
    """The tuple of the traces that are found, in the order in which they are found."""
    return tuple([trace for trace, _ in explored_traces(program, order, limit)])


def graph_of(program, trace, written):
    """The graph of a trace whose situation is final."""
    (history, _), choices, sources = trace
    events = events_of_entries(written, history)
    writes = [
        tuple([events[index] for index in range(len(history)) if history[index][1] == address])
        for address in range(len(program[2]))
    ]
    return (choices, (sources, tuple(writes)))


def graphs_of(program, order, *, limit=2000):
    """The tuple of the graphs of the traces that are found, each once, in the order in which they are found."""
    graphs = {}
    for trace, written in explored_traces(program, order, limit):
        if is_final(trace[0]):
            graphs[graph_of(program, trace, written)] = True
    return tuple(graphs)
