"""Paths: [109]."""

import random

from litmuscore.accesses import is_write
from litmuscore.configs import Config
from litmuscore.errors import InvalidExecution
from litmuscore.executions import check, events_of, outcome
from litmuscore.history import after_move, final_outcome, first_situation
from litmuscore.paths import moves_for, shown_execution
from litmuscore.programs import run
from tests.helpers import ORDERS, PLAIN, STORE_BUFFERING, Case, effect, read, stepped, together
from tests.small import LINKED, PROGRAMS, valid_executions
from tests.walks import Walk, random_program

ONE = ("addi", 1, 0, 1)
LOAD = ("load", 2, 0, 0)
LINK = ("load linked", 2, 0)
CONDITIONAL = ("store conditional", 3, 0, 1)
# The writer stores 1 to the address 0 and then to the address 1; its events are (0, 1) and (0, 2).
WRITER = (ONE, ("store", 1, 0, 0), ("store", 1, 0, 1))


def gaps(program, execution):
    """The writes in their order, and for every other event the number of writes that are earlier."""
    choices, events = execution
    writes, others = [], {}
    for core, number in events:
        if is_write(run(program, core, choices[core])[number][1]):
            writes.append((core, number))
        else:
            others[(core, number)] = len(writes)
    return writes, others


class ShownTest(Case):
    def shows(self, events, program, order, moves):
        """The moves show these events; the choices are those of the step moves."""
        shown = self.call(shown_execution, program, order, tuple(moves))
        self.assertIsNotNone(shown)
        choices, found = shown
        for core in range(len(program[1])):
            self.assertEqual(choices[core], tuple(move[2] for move in moves if move[:2] == ("step", core)))
        self.assertEqual(found, tuple(events))
        self.assertIsNone(check(program, order, shown))

    def among_stores(self, piece, order, many, moves, event, place):
        """The moves of core 1, after many of two stores of core 0, put its event at the place among them."""
        program = together(WRITER, piece, memory=(0, 0))
        first = [stepped(0), stepped(0)] + [effect(0)] * (many > 0) + [stepped(0)] + [effect(0)] * (many > 1)
        rest = [effect(0)] * (2 - many) + [stepped(0), stepped(1)]
        # Under "sc" the second store of core 0 has to wait for the effect of the first one.
        if order == "sc" and many == 0:
            first, rest = [stepped(0), stepped(0)], [effect(0), stepped(0), effect(0), stepped(0), stepped(1)]
        events = [(0, 1), (0, 2)]
        events.insert(place, event)
        self.shows(events, program, order, first + moves + rest)

    def test_each_kind_of_event(self):
        for order in ORDERS:
            for many in range(3):
                word = min(many, 1)
                for piece, moves, event in (
                    ((LOAD,), [read(1, word, many)], (1, 0)),
                    ((LINK,), [read(1, word)], (1, 0)),
                    ((("swap", 2, 0, 0),), [read(1, word)], (1, 0)),
                    ((("fetch add", 2, 0, 0),), [read(1, word)], (1, 0)),
                    ((CONDITIONAL,), [stepped(1)], (1, 0)),
                    ((("store", 0, 0, 0),), [stepped(1), effect(1)], (1, 0)),
                ):
                    self.among_stores(piece, order, many, moves, event, many)

    def test_a_load_of_the_past_has_the_key_of_its_time(self):
        for many in range(3):
            for time in range(many + 1):
                self.among_stores((LOAD,), "wmm", many, [read(1, min(time, 1), time)], (1, 0), time)

    def test_the_effect_of_a_store_counts_and_not_its_step(self):
        for order in ORDERS:
            for many in range(3):
                program = together(WRITER[:2], (ONE, ("store", 1, 0, 0)), (ONE, ("store", 1, 0, 0)), memory=(0,))
                begin = [stepped(core) for core in (2, 1, 0) for _ in range(2)]
                end = [stepped(core) for core in (2, 1, 0)]
                cores = [0, 1, 2][many:] + [0, 1, 2][:many]
                self.shows([(core, 1) for core in cores], program, order,
                           begin + [effect(core) for core in cores] + end)

    def test_a_store_conditional_that_succeeds_and_one_that_fails(self):
        program = together((ONE, LINK, CONDITIONAL, CONDITIONAL), (("store", 1, 0, 1),), memory=(5, 0))
        moves = [stepped(0), read(0, 5), stepped(1), effect(1), stepped(0, (0, True)), stepped(0), stepped(0),
                 stepped(1)]
        for order in ORDERS:
            self.shows([(0, 1), (1, 0), (0, 2), (0, 3)], program, order, moves)

    def test_events_with_the_same_key_are_in_ascending_order(self):
        for order in ORDERS:
            program = together((LOAD, LINK), (LOAD, LINK, CONDITIONAL), memory=(7,))
            moves = [read(1, 7), read(1, 7), stepped(1), read(0, 7), read(0, 7), stepped(0), stepped(1)]
            self.shows([(0, 0), (0, 1), (1, 0), (1, 1), (1, 2)], program, order, moves)

    def test_loads_before_and_after_an_entry(self):
        # Both loads of core 1 are made at the end, the first one at the time 2 and the second one at the time 0.
        program = together(WRITER, (("load", 2, 0, 1), LOAD), memory=(0, 0))
        moves = [stepped(0), stepped(0), stepped(0), effect(0), effect(0), read(1, 1, 2), read(1, 0, 0)]
        self.shows([(1, 1), (0, 1), (0, 2), (1, 0)], program, "wmm", moves + [stepped(0), stepped(1)])

    def test_stores_of_one_core_that_overtake_each_other(self):
        piece = (ONE, ("store", 1, 0, 0), ("store", 1, 0, 1), ("store", 0, 0, 0), ("store", 0, 0, 1))
        program = together(piece, memory=(0, 0))
        begin = [stepped(0)] * 6
        for order in ("pso", "wmm"):
            self.shows([(0, 2), (0, 4), (0, 1), (0, 3)], program, order,
                       begin + [effect(0, 1), effect(0, 2), effect(0), effect(0)])
        self.shows([(0, 1), (0, 2), (0, 3), (0, 4)], program, "tso", begin + [effect(0)] * 4)

    def test_moves_that_are_not_possible(self):
        begin = [stepped(0), stepped(1), stepped(0), effect(0), read(0, 0, 1), stepped(0)]
        end = [stepped(1), effect(1), read(1, 1, 2), stepped(1)]
        for order in ORDERS:
            moves = begin + end
            self.shows([(0, 1), (0, 2), (1, 1), (1, 2)], STORE_BUFFERING, order, moves)
            for place in range(len(moves) + 1):
                for wrong in (stepped(2), effect(0, 1), effect(7), ("step", 0, (1, True), 0), read(1, 0, 1000)):
                    broken = tuple(moves[:place] + [wrong] + moves[place:])
                    self.expect(None, shown_execution, STORE_BUFFERING, order, broken)
            self.expect(None, shown_execution, STORE_BUFFERING, order, tuple(moves + [stepped(0)]))

    def test_situations_that_are_not_final(self):
        moves = [stepped(0), stepped(1), stepped(0), effect(0), read(0, 0, 1), stepped(0), stepped(1)]
        moves += [effect(1), read(1, 1, 2), stepped(1)]
        for order in ORDERS:
            for many in range(len(moves)):
                self.expect(None, shown_execution, STORE_BUFFERING, order, tuple(moves[:many]))
        # Both cores have halted, but a store waits.
        program = together((ONE, ("store", 1, 0, 0)), memory=(0,))
        self.expect(None, shown_execution, program, "tso", (stepped(0), stepped(0), stepped(0)))
        self.expect((((PLAIN, PLAIN, PLAIN),), ((0, 1),)), shown_execution, program, "tso",
                    (stepped(0), stepped(0), stepped(0), effect(0)))

    def test_a_program_without_events(self):
        self.expect((((PLAIN,), (PLAIN, PLAIN)), ()), shown_execution, (((("jump", 9),)), (5, 0), (0,)), "sc",
                    (stepped(0), stepped(1), stepped(1)))


class MovesForTest(Case):
    def agrees(self, program, order, execution):
        """The moves are possible and show an execution with the same choices and the same writes around each event."""
        moves = self.call(moves_for, program, order, execution)
        situation = first_situation(program)
        for move in moves:
            situation = after_move(program, order, situation, move)
            self.assertIsNotNone(situation, (program, order, execution, move))
        self.assertEqual(final_outcome(program, situation), outcome(program, order, execution))
        again = shown_execution(program, order, moves)
        self.assertIsNotNone(again)
        self.assertEqual(repr(again[0]), repr(execution[0]))
        self.assertEqual(gaps(program, again), gaps(program, execution))
        self.assertIsNone(check(program, order, again))

    def test_all_valid_executions_of_small_programs(self):
        for program in PROGRAMS:
            for order in ORDERS:
                for execution in valid_executions(program, order):
                    self.agrees(program, order, execution)

    def test_what_machines_report(self):
        draw = random.Random(9)
        for seed in range(40):
            program = random_program(draw, cores=draw.choice((2, 3)), size=draw.randrange(4, 7))
            for order in ORDERS:
                walk = Walk(program, Config(order, reorder_buffer=5, store_buffer=3, requests=2), seed)
                walk.walk(3000)
                if walk.finished():
                    self.agrees(program, order, walk.execution())

    def test_a_load_long_before_and_long_after_the_writes_of_others(self):
        reader = (LOAD, ("load", 3, 0, 1), ("load", 4, 0, 2))
        program = together(WRITER + (("store", 1, 0, 2),), reader, memory=(0, 0, 0))
        writes = ((0, 1), (0, 2), (0, 3))
        plain = (PLAIN,) * 5
        early, late = (0, False), (1, False)
        # The last load is before all writes, the first one behind them, although it is older.
        for choices, events in (
            ((late, late, early), ((1, 2), *writes, (1, 0), (1, 1))),
            ((late, early, late), ((1, 1), *writes, (1, 2), (1, 0))),
            ((late, early, early), ((1, 2), (1, 1), *writes, (1, 0))),
            ((late, early, late), ((0, 1), (1, 1), (0, 2), (0, 3), (1, 2), (1, 0))),
        ):
            execution = ((plain, choices + (PLAIN,)), events)
            self.assertIsNone(check(program, "wmm", execution))
            self.agrees(program, "wmm", execution)

    def test_a_load_before_an_older_atomic_access(self):
        program = together(WRITER, (("swap", 2, 0, 0), ("load", 3, 0, 1), ("load linked", 4, 0)), memory=(0, 0))
        plain = (PLAIN,) * 4
        execution = ((plain, (((1, False), PLAIN, PLAIN, PLAIN))), ((1, 1), (0, 1), (0, 2), (1, 0), (1, 2)))
        self.assertIsNone(check(program, "wmm", execution))
        self.agrees(program, "wmm", execution)

    def test_an_own_store_after_a_later_load(self):
        program = together((ONE, ("store", 1, 0, 0), LOAD, ("load", 3, 0, 1)), (ONE, ("store", 1, 0, 1)), memory=(0, 0))
        choices = ((PLAIN, PLAIN, (1, False), PLAIN, PLAIN), (PLAIN, PLAIN, PLAIN))
        for order in ("tso", "pso", "wmm"):
            self.agrees(program, order, (choices, ((0, 2), (0, 3), (1, 1), (0, 1))))

    def test_executions_that_are_not_valid(self):
        plain = (PLAIN,) * 4
        right = ((0, 1), (0, 2), (1, 1), (1, 2))
        bad = ((PLAIN, (0, True), PLAIN, PLAIN), plain)
        for order, program, execution in (
            ("tso", STORE_BUFFERING, ((plain,), right)), ("tso", STORE_BUFFERING, ((plain,) * 3, right)),
            ("tso", STORE_BUFFERING, (bad, right)), ("tso", STORE_BUFFERING, ((plain[:3], plain), right)),
            ("tso", STORE_BUFFERING, ((plain, plain), right[:3])), ("tso", STORE_BUFFERING,
                                                                    ((plain, plain), ((9, 9),))),
            ("sc", STORE_BUFFERING, ((plain, plain), ((0, 2), (1, 2), (0, 1), (1, 1)))),
            ("tso", STORE_BUFFERING, ((plain, plain), right)),
            ("wmm", LINKED, ((plain[:2] + ((0, True), PLAIN), (PLAIN, PLAIN)), ((0, 1), (1, 0), (0, 2)))),
        ):
            violation = check(program, order, execution)
            self.assertIsNotNone(violation)
            self.refuse(InvalidExecution, {"violation": violation}, moves_for, program, order, execution)

    def test_each_kind_of_violation(self):
        plain = (PLAIN,) * 4
        right = ((0, 1), (0, 2), (1, 1), (1, 2))
        for violation, order, choices, events in (
            (("cores",), "sc", (plain,), right),
            (("run", 0, 1), "sc", (((PLAIN, (1, False)) + plain[2:]), plain), right),
            (("unfinished", 1), "sc", (plain, plain[:3]), right),
            (("events",), "sc", (plain, plain), right + right[:1]),
            (("order", (0, 1), (0, 2)), "sc", (plain, plain), ((0, 2), (1, 2), (0, 1), (1, 1))),
            (("value", (1, 2)), "tso", (plain, plain), right),
        ):
            self.refuse(InvalidExecution, {"violation": violation}, moves_for, STORE_BUFFERING, order,
                        (choices, events))
        runs = ((PLAIN, PLAIN, (0, True), PLAIN), (PLAIN, PLAIN))
        for order in ORDERS:
            self.refuse(InvalidExecution, {"violation": ("atomicity", (0, 2))}, moves_for, LINKED, order,
                        (runs, ((0, 1), (1, 0), (0, 2))))
        self.assertEqual(events_of(LINKED, runs), ((0, 1), (0, 2), (1, 0)))
