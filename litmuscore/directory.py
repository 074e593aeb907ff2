"""Directories: the home of a line, which serves the requests for it one after another."""


def can_receive(home, message):
    """True if the home can receive the message now."""
    return home[2] is None or message[0] not in ("get shared", "get modified", "give up")


def after_grant(config, home, words, line):
    """What home_receives returns where a grant may be due: the rule of grants is applied."""
    owner, sharers, serving = home
    core, exclusive, waited, recalled, known, granted = serving
    if granted or len(waited) > 0 or recalled or known is None:
        return (home, words, ())
    if exclusive:
        state, owner, sharers = "modified", core, ()
    elif config.exclusive_state and len(sharers) == 0:
        state, owner = "exclusive", core
    else:
        state, owner = "shared", None
        if core not in sharers:
            sharers = sharers + (core,)
    serving = (core, exclusive, waited, recalled, known, True)
    return ((owner, sharers, serving), words, (("grant", core, line, state, known),))


def receive_request(config, home, words, message):
    """What home_receives returns for a request, which it begins to serve."""
    owner, sharers, _ = home
    name, core, line = message
    exclusive = name == "get modified"
    if owner is not None:
        serving = (core, exclusive, (), True, None, False)
        return ((owner, sharers, serving), words, (("recall", owner, line, not exclusive),))
    waited = tuple([sharer for sharer in sharers if sharer != core]) if exclusive else ()
    sent = tuple([("invalidate", sharer, line) for sharer in waited])
    serving = (core, exclusive, waited, False, words, False)
    home, words, grants = after_grant(config, (owner, sharers, serving), words, line)
    return (home, words, sent + grants)


def without_core(cores, core):
    """The cores without this one."""
    return tuple([other for other in cores if other != core])


def receive_invalidated(config, home, words, message):
    """What home_receives returns for the answer of a sharer."""
    owner, sharers, serving = home
    _, sharer, line = message
    core, exclusive, waited, recalled, known, granted = serving
    serving = (core, exclusive, without_core(waited, sharer), recalled, known, granted)
    return after_grant(config, (owner, without_core(sharers, sharer), serving), words, line)


def receive_returned(config, home, words, message):
    """What home_receives returns for the answer of the owner."""
    _, former, line, returned, dirty = message
    core, exclusive, waited, _, _, granted = home[2]
    serving = (core, exclusive, waited, False, returned, granted)
    sharers = () if exclusive else (former,)
    return after_grant(config, (None, sharers, serving), returned if dirty else words, line)


def receive_received(config, home, words, message):
    """What home_receives returns for the answer to a grant."""
    return ((home[0], home[1], None), words, ())


def receive_give_up(config, home, words, message):
    """What home_receives returns for a line that is given up."""
    owner, sharers, serving = home
    _, core, line, given, dirty = message
    if owner == core:
        owner = None
        words = given if dirty else words
    return ((owner, sharers, serving), words, (("confirm", core, line),))


RECEIVING = {
    "get shared": receive_request,
    "get modified": receive_request,
    "invalidated": receive_invalidated,
    "returned": receive_returned,
    "received": receive_received,
    "give up": receive_give_up,
}


def home_receives(config, home, words, message):
    """The home and the words of the line in memory after the message, and the messages that are sent."""
    receive = RECEIVING[message[0]]
    return receive(config, home, words, message)
