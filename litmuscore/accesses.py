"""What the accesses of steps read and write."""


def is_atomic(access):
    """True if the access is neither a load nor a store."""
    return access[0] not in ("load", "store")


def is_read(access):
    """True if the access reads a word: a load, a swap, a fetch add or a load linked."""
    return access[0] in ("load", "atomic", "load linked")


def is_success(access):
    """True if the access is a store conditional that succeeds."""
    return access[0] == "store conditional" and access[3]


def is_write(access):
    """True if the access is a write."""
    return access[0] in ("store", "atomic") or is_success(access)


def writes_to(access, address):
    """True if there is an access and it is a write to the address."""
    return access is not None and access[1] == address and is_write(access)


def stored_word(access):
    """The word that a write stores."""
    return access[3] if access[0] == "atomic" else access[2]
