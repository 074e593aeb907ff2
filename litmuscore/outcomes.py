"""All outcomes of a program under a memory order."""

from litmuscore.exploring import explored, path_to
from litmuscore.history import after_move, final_outcome, first_situation, found_word, is_final, time_seen, word_at
from litmuscore.paths import shown_execution
from litmuscore.programs import MEMORY_INSTRUCTIONS, address_to_read, fence_of, next_instruction


def is_internal(program, state):
    """True if the core has a next step and it is internal."""
    if state[2]:
        return False
    instruction = next_instruction(program, state)
    if instruction is None:
        return True
    return instruction[0] not in MEMORY_INSTRUCTIONS and fence_of(instruction) in (None, "loads")


def tried_times(order, history, view, address):
    """The times at which a load of the address is tried by a core with this view, in ascending order."""
    now = len(history)
    if order != "wmm":
        return [now]
    low = max(view[2], time_seen(view[5], address))
    return [low] + [index + 1 for index in range(low, now) if history[index][1] == address]


def tried_choices(program, order, situation, core):
    """The pairs of a choice and a time that are tried for the next step of a core, which is not internal."""
    history, views = situation
    state = views[core][0]
    instruction = next_instruction(program, state)
    if instruction[0] == "store conditional":
        return [((0, True), 0), ((0, False), 0)]
    address = address_to_read(program, state)
    if address is None:
        return [((0, False), 0)]
    if instruction[0] == "load":
        times = tried_times(order, history, views[core], address)
        return [((found_word(program, situation, core, address, time), False), time) for time in times]
    return [((word_at(program, history, address, len(history)), False), 0)]


def listed_moves(program, order, situation):
    """The moves that are tried if they are possible, in order."""
    views = situation[1]
    for core in range(len(views)):
        if is_internal(program, views[core][0]):
            return [("step", core, (0, False), 0)]
    moves = []
    for core in range(len(views)):
        if not views[core][0][2]:
            for choice, time in tried_choices(program, order, situation, core):
                moves.append(("step", core, choice, time))
    for core in range(len(views)):
        moves.extend([("effect", core, index) for index in range(len(views[core][1]))])
    return moves


def moves_after(program, order, situation):
    """The list of the tried moves, in order, each with the situation after it."""
    listed = listed_moves(program, order, situation)
    pairs = [(move, after_move(program, order, situation, move)) for move in listed]
    return [(move, after) for move, after in pairs if after is not None]


def tried_moves(program, order, situation):
    """The tuple of the tried moves, in order."""
    return tuple([move for move, _ in moves_after(program, order, situation)])


def explored_situations(program, order, limit):
    """The situations that are found, and where they were found."""
    return explored(first_situation(program), lambda situation: moves_after(program, order, situation), limit)


def explore(program, order, *, limit=2000):
    """The tuple of the situations that are found, in the order in which they are found."""
    found, _ = explored_situations(program, order, limit)
    return tuple(found)


def outcomes_of(program, order, *, limit=2000):
    """The outcomes of the program, in ascending order, each with a valid execution that has it."""
    found, origins = explored_situations(program, order, limit)
    executions = {}
    for place, situation in enumerate(found):
        if is_final(situation):
            result = final_outcome(program, situation)
            if result not in executions:
                executions[result] = shown_execution(program, order, path_to(origins, place))
    return tuple([(result, executions[result]) for result in sorted(executions)])
