"""Paths: which execution some moves of the history machine show, and which moves show an execution."""

from litmuscore.accesses import is_write
from litmuscore.executions import require_valid
from litmuscore.history import after_move, first_situation, is_final
from litmuscore.runs import access_in, events_in, events_of_entries, runs_of, writes_in


def keys_of_events(runs, history, moments):
    """The keys of all events; moments has the time of the move and now at the move for each step."""
    keys = {}
    for index, event in enumerate(events_of_entries(writes_in(runs), history)):
        keys[event] = 2 * index + 1
    for event in events_in(runs):
        time, now = moments[event]
        if access_in(runs, event)[0] == "load":
            keys[event] = 2 * time
        elif event not in keys:
            keys[event] = 2 * now
    return keys


def shown_execution(program, order, moves):
    """The execution that the moves show; None if some move is not possible or the last situation is not final."""
    situation = first_situation(program)
    choices = [[] for _ in program[1]]
    moments = {}
    for move in moves:
        now = len(situation[0])
        situation = after_move(program, order, situation, move)
        if situation is None:
            return None
        if move[0] == "step":
            _, core, choice, time = move
            moments[(core, len(choices[core]))] = (time, now)
            choices[core].append(choice)
    if not is_final(situation):
        return None
    shown = tuple([tuple(row) for row in choices])
    keys = keys_of_events(runs_of(program, shown), situation[0], moments)
    return (shown, tuple([event for _, event in sorted([(keys[event], event) for event in keys])]))


class Path:
    """Moves from the first situation on, by which the cores take the steps of given runs."""

    def __init__(self, program, order, choices, times):
        self.program = program
        self.order = order
        self.choices = choices
        self.times = times
        self.situation = first_situation(program)
        self.moves = []
        self.taken = [0 for _ in choices]

    def make(self, move):
        """Make a move, which is possible."""
        self.situation = after_move(self.program, self.order, self.situation, move)
        self.moves.append(move)

    def advance(self, core, number):
        """Let the core take all steps before the one with this number."""
        while self.taken[core] < number:
            event = (core, self.taken[core])
            self.make(("step", core, self.choices[core][event[1]], self.times.get(event, 0)))
            self.taken[core] += 1

    def take_effect(self, core, address):
        """Let the first store to the address in the buffer of the core take effect."""
        for index, entry in enumerate(self.situation[1][core][1]):
            if entry[0] == "store" and entry[1] == address:
                self.make(("effect", core, index))
                return


def times_of_loads(runs, events):
    """For each load how many writes are earlier."""
    times = {}
    many = 0
    for event in events:
        access = access_in(runs, event)
        if access[0] == "load":
            times[event] = many
        if is_write(access):
            many += 1
    return times


def moves_for(program, order, execution):
    """Moves that show an execution with the same choices, in which each event is between the same two writes."""
    require_valid(program, order, execution)
    choices, events = execution
    runs = runs_of(program, choices)
    path = Path(program, order, choices, times_of_loads(runs, events))
    for core, number in events:
        access = runs[core][number][1]
        # Under "wmm" an older load may still have to wait for a later time; but a load can always read the past.
        if access[0] == "load" and order == "wmm":
            continue
        path.advance(core, number + 1)
        if access[0] == "store":
            path.take_effect(core, access[1])
    for core in range(len(choices)):
        path.advance(core, len(choices[core]))
    return tuple(path.moves)
