"""Traces: [126] to [129]."""

import random

from litmuscore.accesses import is_write
from litmuscore.errors import TooManySituations
from litmuscore.graphs import communication_of, is_consistent
from litmuscore.history import after_move, first_situation, is_final
from litmuscore.outcomes import explore, tried_moves
from litmuscore.programs import step
from litmuscore.traces import explore_traces, graphs_of
from tests.helpers import ORDERS, PLAIN, STORE_BUFFERING, Case, effect, read, stepped, together
from tests.small import PROGRAMS, valid_executions
from tests.walks import random_program

ONE = ("addi", 1, 0, 1)
LOAD = ("load", 2, 0, 0)
STORE = ("store", 1, 0, 0)
BUFFERED = ("tso", "pso", "wmm")


class Tracer:
    """A trace that moves change, with the stores that wait and the events of the history."""

    def __init__(self, program, order):
        self.program, self.order = program, order
        self.situation = first_situation(program)
        self.choices = [() for _ in program[1]]
        self.sources = {}
        self.waits = [[] for _ in program[1]]
        self.entries = []

    def copy(self):
        other = Tracer(self.program, self.order)
        other.situation, other.sources = self.situation, dict(self.sources)
        other.choices, other.entries = list(self.choices), list(self.entries)
        other.waits = [list(row) for row in self.waits]
        return other

    def after(self, *moves):
        other = self.copy()
        for move in moves:
            before, other.situation = other.situation, after_move(self.program, self.order, other.situation, move)
            if move[0] == "effect":
                address = other.situation[0][-1][1]
                event = next(event for event, place in other.waits[move[1]] if place == address)
                other.waits[move[1]].remove((event, address))
                other.entries.append((event, address))
            else:
                other.take(before, *move[1:])
        return other

    def take(self, before, core, choice, time):
        event = (core, len(self.choices[core]))
        self.choices[core] += (choice,)
        access = step(self.program, before[1][core][0], choice)[1]
        if access is None:
            return
        address = access[1]
        if access[0] == "load":
            self.sources[event] = self.found(core, address, time)
        elif access[0] in ("atomic", "load linked"):
            self.sources[event] = self.found(core, address, len(before[0]))
        if access[0] == "store":
            self.waits[core].append((event, address))
        elif is_write(access):
            self.entries.append((event, address))

    def found(self, core, address, time):
        for rows in (self.waits[core], [row for row in self.entries[time:] if row[0][0] == core], self.entries[:time]):
            events = [event for event, place in rows if place == address]
            if events:
                return events[-1]
        return None

    def trace(self):
        return (self.situation, tuple(self.choices), tuple(sorted(self.sources.items())))

    def graph(self):
        rows = [tuple(event for event, place in self.entries if place == address)
                for address in range(len(self.program[2]))]
        return (tuple(self.choices), (tuple(sorted(self.sources.items())), tuple(rows)))


def slowly(program, order):
    """The tracers of the traces in the order in which the document finds them."""
    found = [Tracer(program, order)]
    known = {found[0].trace()}
    for tracer in found:
        for move in tried_moves(program, order, tracer.situation):
            after = tracer.after(move)
            if after.trace() not in known:
                known.add(after.trace())
                found.append(after)
    return found


class TracesTest(Case):
    def sources(self, wanted, program, order, *moves):
        """Among the traces there is the one after these moves, and it has the wanted sources."""
        situation = first_situation(program)
        for move in moves:
            situation = after_move(program, order, situation, move)
            self.assertIsNotNone(situation, move)
        choices = tuple(tuple(move[2] for move in moves if move[:2] == ("step", core))
                        for core in range(len(program[1])))
        traces = self.call(explore_traces, program, order)
        self.assertTrue((situation, choices, wanted) in traces)
        self.assertEqual(len([trace for trace in traces if trace[:2] == (situation, choices)]), 1)

    def test_sources_from_the_start(self):
        for order in ORDERS:
            for instruction in (LOAD, ("swap", 2, 0, 1), ("fetch add", 2, 0, 1), ("load linked", 2, 0)):
                program = together((instruction,), memory=(7,))
                self.sources((((0, 0), None),), program, order, read(0, 7))

    def test_sources_from_the_buffer(self):
        for order in BUFFERED:
            program = together((STORE, STORE, ("store", 1, 0, 1), LOAD, ("load", 3, 0, 1)), memory=(7, 8))
            moves = (stepped(0), stepped(0), stepped(0), read(0, 0))
            self.sources((((0, 3), (0, 1)),), program, order, *moves)
            self.sources((((0, 3), (0, 1)), ((0, 4), (0, 2))), program, order, *moves, read(0, 0))
            # The first store has taken effect already; the word comes from the second one.
            self.sources((((0, 3), (0, 1)),), program, order, *moves[:3], effect(0), read(0, 0, order != "wmm"))

    def test_sources_from_own_entries(self):
        for order in ORDERS:
            program = together((STORE, STORE, LOAD), memory=(7,))
            moves = (stepped(0), effect(0), stepped(0), effect(0))
            self.sources((((0, 2), (0, 1)),), program, order, *moves, read(0, 0, 2))
        # A load that reads the past does not miss the own store, neither before nor after its time.
        self.sources((((0, 2), (0, 1)),), program, "wmm", *moves, read(0, 0, 0))
        self.sources((((0, 2), (0, 1)),), program, "wmm", *moves, read(0, 0, 1))

    def test_sources_from_entries_of_others(self):
        program = together((ONE, STORE, ("store", 1, 0, 1), STORE), (LOAD,), memory=(7, 8))
        begin = (stepped(0), stepped(0), effect(0))
        rest = (stepped(0), effect(0), stepped(0), stepped(0), effect(0))
        for order in ORDERS:
            self.sources((((1, 0), (0, 1)),), program, order, *begin, read(1, 1, 1))
            self.sources((((1, 0), (0, 3)),), program, order, *begin, *rest, read(1, 1, 3))
        self.sources((((1, 0), (0, 1)),), program, "wmm", *begin, *rest, read(1, 1, 1))
        self.sources((((1, 0), None),), program, "wmm", *begin, *rest, read(1, 7, 0))

    def test_sources_among_own_entries_and_those_of_others(self):
        program = together((ONE, STORE, LOAD), (ONE, STORE), memory=(7,))
        begin = (stepped(0), stepped(1), stepped(0), stepped(1), stepped(1))
        for order in ORDERS:
            self.sources((((0, 2), (1, 1)),), program, order, *begin, effect(0), effect(1), read(0, 1, 2))
            self.sources((((0, 2), (0, 1)),), program, order, *begin, effect(1), effect(0), read(0, 1, 2))
        self.sources((((0, 2), (0, 1)),), program, "wmm", *begin, effect(0), effect(1), read(0, 1, 0))
        self.sources((((0, 2), (0, 1)),), program, "wmm", *begin, effect(1), effect(0), read(0, 1, 1))

    def test_stores_that_overtake_each_other(self):
        program = together((ONE, ("store", 1, 0, 1), STORE), (LOAD, ("load", 3, 0, 1)), memory=(0, 0))
        for order in ("pso", "wmm"):
            moves = (stepped(0), stepped(0), stepped(0), stepped(0), effect(0, 1), read(1, 1, 1))
            self.sources((((1, 0), (0, 2)),), program, order, *moves)
            self.sources((((1, 0), (0, 2)), ((1, 1), (0, 1))), program, order, *moves, effect(0), read(1, 1, 2))

    def test_atomic_accesses(self):
        piece = (("swap", 2, 0, 1), ("fetch add", 3, 0, 1), ("load linked", 4, 0), ("store conditional", 5, 0, 1), LOAD)
        program = together(piece, memory=(0,))
        for order in ORDERS:
            moves = [read(0, 0), read(0, 0), read(0, 0), stepped(0, (0, True)), read(0, 0, 3)]
            sources = [((0, 0), None), ((0, 1), (0, 0)), ((0, 2), (0, 1))]
            self.sources(tuple(sources), program, order, *moves[:4])
            self.sources((*sources, ((0, 4), (0, 3))), program, order, *moves)
            # A store conditional that fails stores nothing.
            moves = moves[:3] + [stepped(0), read(0, 0, 2)]
            self.sources((*sources, ((0, 4), (0, 1))), program, order, *moves)

    def test_atomic_accesses_read_the_last_of_many_entries(self):
        for instruction in (("swap", 2, 0, 1), ("fetch add", 2, 0, 1), ("load linked", 2, 0)):
            program = together((ONE, STORE, STORE, STORE), (instruction,), memory=(7,))
            for order in ORDERS:
                moves = [stepped(0)] + [stepped(0), effect(0)] * 2 + [stepped(0), stepped(0), effect(0)]
                self.sources((((1, 0), (0, 3)),), program, order, *moves, read(1, 1))

    def test_a_later_step_of_a_lesser_core(self):
        # The sources are in ascending order of the events, not in the order of the moves.
        program = together((LOAD,), (LOAD,), memory=(7,))
        for order in ORDERS:
            self.sources((((0, 0), None), ((1, 0), None)), program, order, read(1, 7), stepped(1), read(0, 7))

    def test_traces_that_differ_in_nothing_but_their_sources(self):
        program = together((STORE,), (LOAD,), memory=(0,))
        finals = [trace for trace in self.call(explore_traces, program, "sc") if is_final(trace[0])]
        self.assertEqual(len({trace[:2] for trace in finals}), 1)
        self.assertEqual([trace[2] for trace in finals], [(((1, 0), None),), (((1, 0), (0, 0)),)])
        self.assertEqual(len(self.call(graphs_of, program, "sc")), 2)
        # Two cores store the same word; it matters which one comes first, also where the words do not tell.
        program = together((STORE,), (STORE,), (LOAD,), memory=(0,))
        for order in ORDERS:
            graphs = self.call(graphs_of, program, order)
            self.assertEqual({(graph[1][0][0][1], graph[1][1][0]) for graph in graphs},
                             {(source, row) for row in (((0, 0), (1, 0)), ((1, 0), (0, 0)))
                              for source in (None, *row)})

    def test_the_order_in_which_traces_are_found(self):
        for program in PROGRAMS:
            for order in ORDERS:
                wanted = tuple(tracer.trace() for tracer in slowly(program, order))
                self.assertEqual(self.call(explore_traces, program, order), wanted)
                self.assertEqual(len(set(wanted)), len(wanted))
                self.assertEqual({trace[0] for trace in wanted}, set(explore(program, order)))

    def test_random_programs(self):
        draw = random.Random(3)
        for _ in range(12):
            program = random_program(draw, size=draw.randrange(3, 5))
            for order in ORDERS:
                tracers = slowly(program, order)
                limit = max(2000, len(tracers))
                self.expect(tuple(tracer.trace() for tracer in tracers), explore_traces, program, order, limit=limit)
                finals = [tracer.graph() for tracer in tracers if is_final(tracer.situation)]
                self.expect(tuple(dict.fromkeys(finals)), graphs_of, program, order, limit=limit)

    def test_the_first_trace_and_an_effect(self):
        program = together((STORE,), memory=(0,))
        for order in ORDERS:
            traces = self.call(explore_traces, program, order)
            self.assertEqual(traces[0], (first_situation(program), ((),), ()))
            stored = after_move(program, order, traces[0][0], stepped(0))
            halted = after_move(program, order, stored, stepped(0))
            done = after_move(program, order, halted, effect(0))
            self.assertEqual(traces[1:], ((stored, ((PLAIN,),), ()), (halted, ((PLAIN, PLAIN),), ()),
                                          (done, ((PLAIN, PLAIN),), ())))

    def test_the_limit(self):
        for program in PROGRAMS:
            for order in ORDERS:
                found, graphs = explore_traces(program, order), graphs_of(program, order)
                self.expect(found, explore_traces, program, order, limit=len(found))
                self.expect(graphs, graphs_of, program, order, limit=len(found))
                for limit in (len(found) - 1, 1):
                    self.refuse(TooManySituations, {"limit": limit}, explore_traces, program, order, limit=limit)
                    self.refuse(TooManySituations, {"limit": limit}, graphs_of, program, order, limit=limit)

    def test_loops_have_traces_without_an_end(self):
        # There is one situation, but every turn of the loop makes a trace of its own.
        program = ((("jump", 0),), (0,), (0,))
        for order in ORDERS:
            self.assertEqual(len(explore(program, order)), 1)
            self.refuse(TooManySituations, {"limit": 2000}, explore_traces, program, order)
            self.refuse(TooManySituations, {"limit": 2000}, graphs_of, program, order)


class GraphsTest(Case):
    def test_graphs_are_those_of_all_valid_executions(self):
        for program in PROGRAMS:
            for order in ORDERS:
                graphs = self.call(graphs_of, program, order)
                self.assertEqual(len(set(graphs)), len(graphs))
                self.assertEqual(set(graphs), {(execution[0], communication_of(program, order, execution))
                                               for execution in valid_executions(program, order)})
                for choices, communication in graphs:
                    self.assertTrue(is_consistent(program, choices, communication))

    def test_each_graph_once_in_the_order_in_which_it_is_found(self):
        for program in PROGRAMS:
            for order in ORDERS:
                finals = [tracer.graph() for tracer in slowly(program, order) if is_final(tracer.situation)]
                self.expect(tuple(dict.fromkeys(finals)), graphs_of, program, order)
        # Under "wmm" the load of a word that its own core has stored can have several times and one source.
        program = together((ONE, STORE, LOAD), memory=(0,))
        self.assertEqual(len([trace for trace in explore_traces(program, "wmm") if is_final(trace[0])]), 2)
        self.expect(((((PLAIN, PLAIN, (1, False), PLAIN),), (((((0, 2), (0, 1))),), (((0, 1),),))),),
                    graphs_of, program, "wmm")

    def test_writes_of_each_address_in_the_order_of_the_history(self):
        program = together((STORE, ("store", 1, 0, 1)), (("swap", 2, 0, 0),), memory=(0, 0, 0))
        for order in ORDERS:
            self.assertEqual({graph[1][1] for graph in self.call(graphs_of, program, order)},
                             {(row, ((0, 1),), ()) for row in (((0, 0), (1, 0)), ((1, 0), (0, 0)))})

    def test_programs_without_events_and_without_an_end(self):
        for order in ORDERS:
            self.expect(((((PLAIN,),), ((), ((),))),), graphs_of, ((), (3,), (9,)), order)
            self.refuse(TooManySituations, {"limit": 30}, graphs_of, (((LOAD), ("jump", 0)), (0,), (0,)), order,
                        limit=30)

    def test_store_buffering(self):
        for order, many in zip(ORDERS, (3, 4, 4, 4)):
            graphs = self.call(graphs_of, STORE_BUFFERING, order)
            self.assertEqual(len(graphs), many)
            unseen = (((0, 2), None), ((1, 2), None))
            self.assertEqual(unseen in [graph[1][0] for graph in graphs], order != "sc")

    def test_the_example(self):
        program = ((ONE, STORE, ("halt",), ("load", 1, 0, 0), ("halt",)), (0, 3), (0,))
        late = ((((0, False), PLAIN, PLAIN), ((1, False), PLAIN)), ((((1, 0), (0, 1)),), (((0, 1),),)))
        early = ((((0, False), PLAIN, PLAIN), (PLAIN, PLAIN)), ((((1, 0), None),), (((0, 1),),)))
        self.expect((early, late), graphs_of, program, "sc")
