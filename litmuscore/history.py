"""The history machine: an abstract machine with store buffers, whose loads may read the past."""

from litmuscore.accesses import is_success, is_write, stored_word
from litmuscore.buffers import may_leave, newest_word, waiting, with_fence, without
from litmuscore.programs import start_state, step
from litmuscore.tuples import with_item


def first_situation(program):
    """The first situation of the history machine."""
    views = [(start_state(program, core), (), 0, 0, 0, (), 0) for core in range(len(program[1]))]
    return ((), tuple(views))


def word_at(program, history, address, time):
    """The word at the address at the time."""
    for _, written, word in reversed(history[:time]):
        if written == address:
            return word
    return program[2][address]


def found_word(program, situation, core, address, time):
    """The word that a load of the core finds at the address at the time."""
    history, views = situation
    word = newest_word(views[core][1], address)
    if word is not None:
        return word
    for writer, written, stored in reversed(history[time:]):
        if writer == core and written == address:
            return stored
    return word_at(program, history, address, time)


def time_seen(seen, address):
    """The time at which the address is seen, or 0 if it is not seen."""
    for other, time in seen:
        if other == address:
            return time
    return 0


def with_seen(seen, address, time):
    """The pairs of addresses and times after the address is seen at the time."""
    pairs = [pair for pair in seen if pair[0] != address]
    return tuple(sorted([*pairs, (address, time)]))


def is_load_time(order, view, now, address, time):
    """True if a load of a core with this view can read the address at the time."""
    _, buffer, floor, _, _, seen, _ = view
    if order == "wmm":
        return max(floor, time_seen(seen, address)) <= time <= now
    return time == now and (order != "sc" or waiting(buffer) == 0)


def is_written_since(history, core, address, time):
    """True if an entry of another core for the address is after the time."""
    for writer, written, _ in history[time:]:
        if writer != core and written == address:
            return True
    return False


def may_load(program, order, situation, move, access):
    """True if the condition for a load holds."""
    history, views = situation
    _, core, _, time = move
    _, address, word = access
    if not is_load_time(order, views[core], len(history), address, time):
        return False
    return found_word(program, situation, core, address, time) == word


def may_access(program, order, situation, core, access):
    """True if the condition for a store or an atomic access holds."""
    history, views = situation
    view = views[core]
    idle = waiting(view[1]) == 0
    if access[0] == "store":
        return idle or order != "sc"
    if access[0] == "store conditional":
        return idle and not (access[3] and is_written_since(history, core, access[1], view[6]))
    return idle and access[2] == word_at(program, history, access[1], len(history))


def may_step(program, order, situation, move, taken):
    """True if the condition holds for a step move that takes this step."""
    _, access, fence = taken
    _, core, _, time = move
    if access is not None and access[0] == "load":
        return may_load(program, order, situation, move, access)
    if time != 0:
        return False
    if access is not None:
        return may_access(program, order, situation, core, access)
    return fence != "full" or waiting(situation[1][core][1]) == 0


def after_fence(order, view, fence):
    """The view after a step without access that acts as the fence, or as none if it is None."""
    state, buffer, floor, top, top_store, seen, link_time = view
    if fence == "stores":
        buffer = with_fence(buffer)
    if order == "wmm" and fence == "loads":
        floor = max(floor, top)
    if order == "wmm" and fence == "full":
        floor = max(floor, top, top_store)
    return (state, buffer, floor, top, top_store, seen, link_time)


def after_access(order, view, access, time):
    """The view after an access; a load happens at the time, an atomic access leaves it as the new now."""
    state, buffer, floor, top, top_store, seen, link_time = view
    if access[0] == "store":
        return (state, buffer + (access,), floor, top, top_store, seen, link_time)
    if access[0] == "load linked":
        link_time = time
    if order == "wmm":
        top = max(top, time)
        seen = with_seen(seen, access[1], time)
    if order == "wmm" and is_write(access):
        top_store = time
    return (state, buffer, floor, top, top_store, seen, link_time)


def after_step(program, order, situation, move):
    """The situation after a step move of a core that exists, or None if it is not possible."""
    history, views = situation
    _, core, choice, time = move
    state, buffer, floor, top, top_store, seen, link_time = views[core]
    taken = step(program, state, choice)
    if taken is None or not may_step(program, order, situation, move, taken):
        return None
    state, access, fence = taken
    if state[3] == -1:
        link_time = 0
    view = (state, buffer, floor, top, top_store, seen, link_time)
    if access is None:
        return (history, with_item(views, core, after_fence(order, view, fence)))
    if access[0] == "atomic" or is_success(access):
        history = history + ((core, access[1], stored_word(access)),)
    if access[0] != "load":
        time = len(history)
    return (history, with_item(views, core, after_access(order, view, access, time)))


def after_effect(order, situation, core, index):
    """The situation after an effect move of a core that exists, or None if it is not possible."""
    history, views = situation
    state, buffer, floor, top, top_store, seen, link_time = views[core]
    if not may_leave(order, buffer, index):
        return None
    _, address, word = buffer[index]
    history = history + ((core, address, word),)
    if order == "wmm":
        top_store = len(history)
    view = (state, without(buffer, index), floor, top, top_store, seen, link_time)
    return (history, with_item(views, core, view))


def after_move(program, order, situation, move):
    """The situation after the move, or None if the move is not possible."""
    core = move[1]
    if core >= len(situation[1]):
        return None
    if move[0] == "effect":
        return after_effect(order, situation, core, move[2])
    return after_step(program, order, situation, move)


def is_final(situation):
    """True if all cores have halted and no stores wait."""
    return all([view[0][2] and waiting(view[1]) == 0 for view in situation[1]])


def final_outcome(program, situation):
    """The states of the cores and the words of memory in a final situation."""
    history, views = situation
    memory = [word_at(program, history, address, len(history)) for address in range(len(program[2]))]
    return (tuple([view[0] for view in views]), tuple(memory))
