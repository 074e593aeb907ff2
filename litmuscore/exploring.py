"""Exploring: to find all that can be reached."""

from litmuscore.errors import TooManySituations


def explored(first, followers, limit):
    """All that is found, in order, and for each of it where it was found: the place of its origin, and the move.

    followers gives the list of the pairs of a move and what it leads to. Nothing is the origin of the first.
    """
    found = [first]
    origins = [None]
    known = {first: True}
    taken = 0
    while taken < len(found):
        if len(found) > limit:
            raise TooManySituations(limit)
        for move, after in followers(found[taken]):
            if after not in known:
                known[after] = True
                found.append(after)
                origins.append((taken, move))
        taken += 1
    return (found, origins)


def path_to(origins, place):
    """The moves that lead to what was found at the place, from the first on."""
    moves = []
    while origins[place] is not None:
        place, move = origins[place]
        moves.append(move)
    moves.reverse()
    return tuple(moves)
