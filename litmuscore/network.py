"""The memory system: private caches, the homes of all lines, memory, and a network that delivers in any order."""

from litmuscore.caches import cache_receives, give_up_line, request_line, row_of, write_word
from litmuscore.configs import line_count, line_of, with_line_words, words_of_line
from litmuscore.directory import can_receive, home_receives
from litmuscore.tuples import with_item, without_item

TO_HOMES = ("get shared", "get modified", "give up", "returned", "invalidated", "received")
WORK = {
    "give up": 3,
    "recall": 3,
    "returned": 2,
    "invalidate": 2,
    "grant": 2,
    "invalidated": 1,
    "received": 1,
    "confirm": 1,
}


def start_system(program, config):
    """The memory system at the start."""
    _, entries, memory = program
    caches = tuple([((), (), ()) for _ in entries])
    homes = tuple([(None, (), None) for _ in range(line_count(config, memory))])
    return (caches, homes, memory, ())


def can_deliver(system, message):
    """True if the receiver of the message can receive it now."""
    return message[0] not in TO_HOMES or can_receive(system[1][message[2]], message)


def deliverable(system):
    """The indices of the messages that can be delivered, in ascending order."""
    return tuple([index for index, message in enumerate(system[3]) if can_deliver(system, message)])


def with_cache(system, core, changed):
    """The system with another cache of the core and the messages that it sends; None if there is no change."""
    if changed is None:
        return None
    caches, homes, memory, network = system
    cache, sent = changed
    return (with_item(caches, core, cache), homes, memory, network + sent)


def after_request(config, system, action):
    """The memory system after a request, or None if it is not possible."""
    caches, homes, _, _ = system
    _, core, line, exclusive = action
    if core >= len(caches) or line >= len(homes):
        return None
    return with_cache(system, core, request_line(config, caches[core], core, line, exclusive))


def after_evict(config, system, action):
    """The memory system after a line was given up, or None if this is not possible."""
    caches = system[0]
    _, core, line = action
    if core >= len(caches):
        return None
    return with_cache(system, core, give_up_line(caches[core], core, line))


def after_deliver(config, system, action):
    """The memory system after a message was delivered, or None if this is not possible."""
    caches, homes, memory, network = system
    index = action[1]
    if index >= len(network) or not can_deliver(system, network[index]):
        return None
    message = network[index]
    core, line = message[1], message[2]
    network = without_item(network, index)
    if message[0] not in TO_HOMES:
        return with_cache((caches, homes, memory, network), core, cache_receives(caches[core], message))
    home, words, sent = home_receives(config, homes[line], words_of_line(config, memory, line), message)
    return (caches, with_item(homes, line, home), with_line_words(config, memory, line, words), network + sent)


ACTIONS = {
    "request": after_request,
    "evict": after_evict,
    "deliver": after_deliver,
}


def next_system(config, system, action):
    """The memory system after one of its three actions, or None if it is not possible."""
    act = ACTIONS[action[0]]
    return act(config, system, action)


def written(config, system, core, address, word):
    """The memory system after the core has written the word into its cache, or None if it cannot."""
    cache = write_word(config, system[0][core], address, word)
    if cache is None:
        return None
    return with_cache(system, core, (cache, ()))


def words_in_flight(network, owner, line):
    """The words of the message by which a line is on its way to its owner, or back."""
    for message in network:
        if message[1] == owner and message[2] == line and message[0] in ("grant", "returned"):
            return message[4] if message[0] == "grant" else message[3]
    return None


def coherent_words(config, system, line):
    """The coherent words of a line."""
    caches, homes, memory, network = system
    owner = homes[line][0]
    if owner is None:
        return words_of_line(config, memory, line)
    lines, _, leaving = caches[owner]
    row = row_of(lines, line)
    if row is not None:
        return row[2]
    row = row_of(leaving, line)
    if row is not None and row[1] is not None:
        return row[1]
    return words_in_flight(network, owner, line)


def coherent_word(config, system, address):
    """The coherent word of an address of memory."""
    return coherent_words(config, system, line_of(config, address))[address % config.line_words]


def work(system):
    """The work of the memory system; each delivery makes it less."""
    caches, homes, _, network = system
    total = 0
    for message in network:
        total += WORK.get(message[0], 2 * len(caches) + 2)
    for _, _, serving in homes:
        if serving is not None and not serving[5]:
            total += 2
    return total
