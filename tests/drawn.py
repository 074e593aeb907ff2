"""Valid executions of programs, drawn at random."""

from litmuscore.executions import check
from litmuscore.history import after_move, first_situation, is_final
from litmuscore.outcomes import tried_moves
from litmuscore.paths import shown_execution


def drawn_moves(draw, program, order):
    """Moves to a final situation; all cores of the program halt."""
    situation = first_situation(program)
    moves = ()
    while not is_final(situation):
        moves += (draw.choice(tried_moves(program, order, situation)),)
        situation = after_move(program, order, situation, moves[-1])
    return moves


def drawn_execution(draw, program, order, *, swaps=30):
    """A valid execution; events that stand side by side are exchanged as far as it stays valid."""
    choices, events = shown_execution(program, order, drawn_moves(draw, program, order))
    for _ in range(swaps if len(events) > 1 else 0):
        place = draw.randrange(len(events) - 1)
        swapped = events[:place] + (events[place + 1], events[place]) + events[place + 2:]
        if check(program, order, (choices, swapped)) is None:
            events = swapped
    return (choices, events)
