"""Communication: [80] to [86]."""

from litmuscore.errors import InvalidExecution
from litmuscore.executions import check, events_of, preserved
from litmuscore.graphs import arrange, communication_of, is_consistent, must_follow
from tests.helpers import ORDERS, PLAIN, STORE_BUFFERING, Case, together

ONE = ("addi", 1, 0, 1)
LOAD = ("load", 2, 0, 0)
STORE = ("store", 1, 0, 0)
SWAP = ("swap", 2, 0, 1)
LINK = ("load linked", 2, 0)
CONDITIONAL = ("store conditional", 3, 0, 1)


class CommunicationOfTest(Case):
    def test_loads_from_the_own_store_and_from_another_core_and_from_the_start(self):
        program = together((ONE, STORE, LOAD), (LOAD, LOAD), memory=(0,))
        choices = ((PLAIN, PLAIN, (1, False), PLAIN), (PLAIN, (1, False), PLAIN))
        early = (choices, ((1, 0), (0, 2), (0, 1), (1, 1)))
        sources = (((0, 2), (0, 1)), ((1, 0), None), ((1, 1), (0, 1)))
        self.expect((sources, (((0, 1),),)), communication_of, program, "tso", early)
        late = (choices, ((1, 0), (0, 1), (0, 2), (1, 1)))
        self.expect((sources, (((0, 1),),)), communication_of, program, "tso", late)

    def test_a_store_between_the_own_store_and_the_load(self):
        program = together((ONE, STORE, LOAD), (ONE, STORE), memory=(0,))
        choices = ((PLAIN, PLAIN, (1, False), PLAIN), (PLAIN,) * 3)
        for events, source, row in (
            (((0, 1), (1, 1), (0, 2)), (1, 1), ((0, 1), (1, 1))),
            (((1, 1), (0, 1), (0, 2)), (0, 1), ((1, 1), (0, 1))),
            (((1, 1), (0, 2), (0, 1)), (0, 1), ((1, 1), (0, 1))),
        ):
            wanted = ((((0, 2), source),), (row,))
            self.expect(wanted, communication_of, program, "tso", (choices, events))

    def test_the_last_own_store_that_is_not_earlier(self):
        program = together((ONE, STORE, STORE, LOAD), memory=(0,))
        execution = (((PLAIN, PLAIN, PLAIN, (1, False), PLAIN),), ((0, 3), (0, 1), (0, 2)))
        self.expect(((((0, 3), (0, 2)),), (((0, 1), (0, 2)),)), communication_of, program, "tso", execution)

    def test_atomic_accesses(self):
        piece = (ONE, SWAP, ("fetch add", 2, 0, 1), LINK, CONDITIONAL, LOAD)
        program = together(piece, memory=(7,))
        choices = ((PLAIN, (7, False), (1, False), (2, False), (0, True), (1, False), PLAIN),)
        sources = (((0, 1), None), ((0, 2), (0, 1)), ((0, 3), (0, 2)), ((0, 5), (0, 4)))
        wanted = (sources, (((0, 1), (0, 2), (0, 4)),))
        self.expect(wanted, communication_of, program, "wmm", (choices, tuple((0, k) for k in range(1, 6))))

    def test_a_store_conditional_that_fails_neither_reads_nor_writes(self):
        program = together((LINK, CONDITIONAL, LOAD), memory=(0,))
        execution = (((PLAIN,) * 4,), ((0, 0), (0, 1), (0, 2)))
        self.expect(((((0, 0), None), ((0, 2), None)), ((),)), communication_of, program, "sc", execution)

    def test_all_addresses_are_there(self):
        program = together((("store", 0, 0, 2), ("store", 0, 0, 0)), memory=(1, 2, 3, 4))
        execution = (((PLAIN,) * 3,), ((0, 1), (0, 0)))
        self.expect(((), (((0, 1),), (), ((0, 0),), ())), communication_of, program, "pso", execution)
        self.expect(((), ((), ())), communication_of, ((), (0,), (1, 2)), "sc", (((PLAIN,),), ()))

    def test_executions_that_are_not_valid(self):
        plain = (PLAIN,) * 4
        both = (plain, plain)
        for execution, violation in (
            (((plain,), ()), ("cores",)),
            (((((0, True),), plain), ()), ("run", 0, 0)),
            (((plain, ((1, False),)), ()), ("run", 1, 0)),
            (((plain, ()), ()), ("unfinished", 1)),
            ((both, ((0, 1),)), ("events",)),
            ((both, ((0, 2), (1, 2), (0, 1), (1, 1))), ("order", (0, 1), (0, 2))),
            ((both, ((0, 1), (0, 2), (1, 1), (1, 2))), ("value", (1, 2))),
        ):
            with self.assertRaises(InvalidExecution) as caught:
                communication_of(STORE_BUFFERING, "sc", execution)
            self.assertEqual(caught.exception.violation, violation)
        program = together((LINK, CONDITIONAL), (STORE,), memory=(0,))
        with self.assertRaises(InvalidExecution) as caught:
            communication_of(program, "sc", ((((0, False), (0, True), PLAIN), (PLAIN, PLAIN)), ((0, 0), (1, 0), (0, 1))))
        self.assertEqual(caught.exception.violation, ("atomicity", (0, 1)))


class ConsistentTest(Case):
    def test_none_is_broken(self):
        program = together((ONE, STORE, LOAD), memory=(0,))
        choices = ((PLAIN, PLAIN, (1, False), PLAIN),)
        self.expect(True, is_consistent, program, choices, ((((0, 2), (0, 1)),), (((0, 1),),)))
        self.expect(True, is_consistent, ((), (0,), (1,)), ((PLAIN,),), ((), ((),)))

    def test_a_word_that_the_source_does_not_store(self):
        program = together((ONE, LOAD), (ONE, STORE), memory=(7,))
        for word, source, wanted in ((1, (1, 1), True), (7, (1, 1), False), (7, None, True), (1, None, False)):
            choices = ((PLAIN, (word, False), PLAIN), (PLAIN,) * 3)
            self.expect(wanted, is_consistent, program, choices, ((((0, 1), source),), (((1, 1),),)))

    def test_words_of_atomic_accesses(self):
        program = together((ONE, SWAP), (ONE, ("fetch add", 2, 0, 1)), memory=(7,))
        for first, second, sources, wanted in (
            (7, 1, (None, (0, 1)), True), (8, 7, ((1, 1), None), True), (7, 7, (None, None), True),
            (7, 8, (None, (0, 1)), False), (1, 7, ((1, 1), None), False), (8, 7, (None, None), False),
        ):
            choices = ((PLAIN, (first, False), PLAIN), (PLAIN, (second, False), PLAIN))
            communication = ((((0, 1), sources[0]), ((1, 1), sources[1])), (((0, 1), (1, 1)),))
            self.expect(wanted, is_consistent, program, choices, communication)

    def test_a_load_from_a_later_step(self):
        program = together((ONE, LOAD, STORE), (ONE, STORE), memory=(0,))
        choices = ((PLAIN, (1, False), PLAIN, PLAIN), (PLAIN,) * 3)
        row = ((0, 2), (1, 1))
        self.expect(False, is_consistent, program, choices, ((((0, 1), (0, 2)),), (row,)))
        self.expect(True, is_consistent, program, choices, ((((0, 1), (1, 1)),), (row,)))

    def test_an_atomic_access_from_a_later_step_or_itself(self):
        program = together((ONE, SWAP, SWAP), memory=(7,))
        choices = ((PLAIN, (1, False), (1, False), PLAIN),)
        row = ((0, 1), (0, 2))
        for source in row:
            communication = ((((0, 1), source), ((0, 2), (0, 1))), (row,))
            self.expect(True, is_consistent, program, choices, communication)

    def test_a_load_from_before_the_last_own_write(self):
        program = together((ONE, STORE, STORE, LOAD), (ONE, STORE), memory=(1,))
        choices = ((PLAIN, PLAIN, PLAIN, (1, False), PLAIN), (PLAIN,) * 3)
        row = ((0, 1), (0, 2), (1, 1))
        for source, wanted in ((None, False), ((0, 1), False), ((0, 2), True), ((1, 1), True)):
            self.expect(wanted, is_consistent, program, choices, ((((0, 3), source),), (row,)))
        row = ((1, 1), (0, 1), (0, 2))
        self.expect(False, is_consistent, program, choices, ((((0, 3), (1, 1)),), (row,)))

    def test_a_source_of_none(self):
        program = together((("store", 1, 0, 1), LOAD, STORE), memory=(0, 0))
        choices = ((PLAIN,) * 4,)
        self.expect(True, is_consistent, program, choices, ((((0, 1), None),), (((0, 2),), ((0, 0),))))

    def link(self, sources, row, word=0):
        """Core 0 links and stores conditionally, core 1 stores 0 twice."""
        store = ("store", 0, 0, 0)
        program = together((LINK, CONDITIONAL), (store, store), memory=(0,))
        choices = (((word, False), (0, True), PLAIN), (PLAIN,) * 3)
        return self.call(is_consistent, program, choices, ((((0, 0), sources),), (row,)))

    def test_writes_between_the_load_linked_and_the_store_conditional(self):
        done = (0, 1)
        first, second = (1, 0), (1, 1)
        self.assertTrue(self.link(second, (first, second, done)))
        self.assertFalse(self.link(first, (first, second, done)))
        self.assertTrue(self.link(first, (first, done, second)))
        self.assertFalse(self.link(None, (first, done, second)))
        self.assertTrue(self.link(None, (done, first, second)))
        self.assertFalse(self.link(None, (first, second, done)))
        self.assertTrue(self.link(second, (done, first, second)))

    def test_own_writes_between_do_not_matter(self):
        program = together((LINK, ("store", 0, 0, 0), CONDITIONAL), memory=(0,))
        choices = ((PLAIN, PLAIN, (0, True), PLAIN),)
        self.expect(True, is_consistent, program, choices, ((((0, 0), None),), (((0, 1), (0, 2)),)))

    def test_a_store_conditional_that_fails_does_not_matter(self):
        program = together((LINK, CONDITIONAL), (("store", 0, 0, 0),), memory=(0,))
        choices = ((PLAIN, PLAIN, PLAIN), (PLAIN,) * 2)
        self.expect(True, is_consistent, program, choices, ((((0, 0), None),), (((1, 0),),)))

    def test_the_last_load_linked_counts(self):
        program = together((LINK, LINK, CONDITIONAL), (("store", 0, 0, 0),), memory=(0,))
        choices = ((PLAIN, PLAIN, (0, True), PLAIN), (PLAIN,) * 2)
        row = ((1, 0), (0, 2))
        self.expect(True, is_consistent, program, choices, ((((0, 0), None), ((0, 1), (1, 0))), (row,)))
        self.expect(False, is_consistent, program, choices, ((((0, 0), (1, 0)), ((0, 1), None)), (row,)))


class MustFollowTest(Case):
    def test_what_must_precede(self):
        program = together((LOAD, ("load", 3, 0, 1)), memory=(0, 0))
        choices = ((PLAIN,) * 3,)
        communication = ((((0, 0), None), ((0, 1), None)), ((), ()))
        for order in ORDERS:
            wanted = () if order == "wmm" else (((0, 0), (0, 1)),)
            self.expect(wanted, must_follow, program, order, choices, communication)

    def test_writes_to_one_address(self):
        program = together((STORE,), (STORE,), (STORE,), memory=(0, 0))
        choices = ((PLAIN,) * 2,) * 3
        row = ((2, 0), (0, 0), (1, 0))
        wanted = (((0, 0), (1, 0)), ((2, 0), (0, 0)), ((2, 0), (1, 0)))
        for order in ORDERS:
            self.expect(wanted, must_follow, program, order, choices, ((), (row, ())))

    def test_a_source_of_another_core(self):
        program = together((ONE, STORE), (LOAD,), memory=(0,))
        choices = ((PLAIN,) * 3, ((1, False), PLAIN))
        for order in ORDERS:
            self.expect((((0, 1), (1, 0)),), must_follow, program, order, choices, ((((1, 0), (0, 1)),), (((0, 1),),)))

    def test_a_load_with_a_source_of_its_own_core(self):
        program = together((ONE, STORE, LOAD), memory=(0,))
        choices = ((PLAIN, PLAIN, (1, False), PLAIN),)
        communication = ((((0, 2), (0, 1)),), (((0, 1),),))
        for order in ORDERS:
            wanted = (((0, 1), (0, 2)),) if order == "sc" else ()
            self.expect(wanted, must_follow, program, order, choices, communication)

    def test_a_load_with_a_later_source_of_its_own_core(self):
        program = together((ONE, LOAD, STORE), memory=(0,))
        choices = ((PLAIN, (1, False), PLAIN, PLAIN),)
        communication = ((((0, 1), (0, 2)),), (((0, 2),),))
        for order in ORDERS:
            self.expect((((0, 1), (0, 2)),), must_follow, program, order, choices, communication)

    def test_an_atomic_access_with_a_source_of_its_own_core(self):
        for instruction in (SWAP, LINK):
            program = together((ONE, instruction, STORE), memory=(0,))
            choices = ((PLAIN, (1, False), PLAIN, PLAIN),)
            row = ((0, 2),) if instruction == LINK else ((0, 1), (0, 2))
            communication = ((((0, 1), (0, 2)),), (row,))
            wanted = (((0, 1), (0, 2)), ((0, 2), (0, 1)))
            for order in ORDERS:
                self.expect(wanted, must_follow, program, order, choices, communication)

    def test_an_event_that_is_its_own_source(self):
        for instruction in (SWAP, ("fetch add", 2, 0, 0)):
            program = together((ONE, instruction), memory=(1,))
            choices = ((PLAIN, (1, False), PLAIN),)
            communication = ((((0, 1), (0, 1)),), (((0, 1),),))
            for order in ORDERS:
                self.expect((((0, 1), (0, 1)),), must_follow, program, order, choices, communication)

    def test_writes_after_the_source(self):
        program = together((LOAD,), (STORE,), (STORE,), memory=(0,))
        choices = ((PLAIN,) * 2,) * 3
        row = ((1, 0), (2, 0))
        between = ((1, 0), (2, 0))
        for source, wanted in (
            (None, (((0, 0), (1, 0)), ((0, 0), (2, 0)), between)),
            ((1, 0), (((0, 0), (2, 0)), ((1, 0), (0, 0)), between)),
            ((2, 0), (between, ((2, 0), (0, 0)))),
        ):
            for order in ORDERS:
                self.expect(wanted, must_follow, program, order, choices, ((((0, 0), source),), (row,)))

    def test_an_own_earlier_write_after_the_source(self):
        program = together((ONE, STORE, LOAD), memory=(0,))
        choices = ((PLAIN,) * 4,)
        communication = ((((0, 2), None),), (((0, 1),),))
        self.expect((((0, 2), (0, 1)),), must_follow, program, "tso", choices, communication)
        self.expect((((0, 1), (0, 2)), ((0, 2), (0, 1))), must_follow, program, "sc", choices, communication)

    def test_an_event_does_not_follow_itself_because_it_writes_after_its_source(self):
        program = together((ONE, SWAP), (ONE, STORE), memory=(0,))
        choices = ((PLAIN, (0, False), PLAIN), (PLAIN,) * 3)
        communication = ((((0, 1), None),), (((0, 1), (1, 1)),))
        self.expect((((0, 1), (1, 1)),), must_follow, program, "wmm", choices, communication)
        communication = ((((0, 1), None),), (((1, 1), (0, 1)),))
        self.expect((((0, 1), (1, 1)), ((1, 1), (0, 1))), must_follow, program, "wmm", choices, communication)

    def test_each_pair_once(self):
        program = together((ONE, SWAP, ("fetch add", 2, 0, 1)), memory=(0,))
        choices = ((PLAIN, PLAIN, (1, False), PLAIN),)
        communication = ((((0, 1), None), ((0, 2), (0, 1))), (((0, 1), (0, 2)),))
        for order in ORDERS:
            self.expect((((0, 1), (0, 2)),), must_follow, program, order, choices, communication)

    def test_a_store_conditional_that_fails_follows_in_its_own_core_alone(self):
        program = together((LOAD, CONDITIONAL), (STORE,), memory=(0,))
        choices = ((PLAIN,) * 3, (PLAIN,) * 2)
        communication = ((((0, 0), (1, 0)),), (((1, 0),),))
        wanted = (((0, 0), (0, 1)), ((1, 0), (0, 0)))
        self.expect(wanted, must_follow, program, "wmm", choices, communication)


class ArrangeTest(Case):
    def cycle(self, program, order, choices, communication):
        """A cycle was found; its events."""
        name, events = self.call(arrange, program, order, choices, communication)
        pairs = must_follow(program, order, choices, communication)
        self.assertEqual(name, "cycle")
        self.assertEqual(len(set(events)), len(events))
        self.assertGreater(len(events), 0)
        for place, event in enumerate(events):
            self.assertIn((event, events[(place + 1) % len(events)]), pairs)
        return events

    def test_without_events(self):
        self.expect(("order", ()), arrange, ((), (0,), (1,)), "sc", ((PLAIN,),), ((), ((),)))

    def test_the_first_event_that_can_be_taken(self):
        program = together((LOAD, ("load", 3, 0, 1)), (ONE, ("store", 1, 0, 0), ("store", 1, 0, 1)), memory=(0, 0))
        choices = (((1, False), PLAIN, PLAIN), (PLAIN,) * 4)
        communication = ((((0, 0), (1, 1)), ((0, 1), None)), (((1, 1),), ((1, 2),)))
        self.expect(("order", ((0, 1), (1, 1), (0, 0), (1, 2))), arrange, program, "wmm", choices, communication)
        self.expect(("order", ((1, 1), (0, 0), (0, 1), (1, 2))), arrange, program, "pso", choices, communication)

    def test_an_event_that_becomes_free_comes_before_later_ones(self):
        program = together((LOAD,), (STORE,), (("load", 1, 0, 1),), memory=(0, 0))
        choices = ((PLAIN,) * 2,) * 3
        communication = ((((0, 0), (1, 0)), ((2, 0), None)), (((1, 0),), ()))
        self.expect(("order", ((1, 0), (0, 0), (2, 0))), arrange, program, "sc", choices, communication)

    def test_a_cycle_of_one_event(self):
        program = together((ONE, SWAP), (LOAD,), memory=(1,))
        choices = ((PLAIN, (1, False), PLAIN), ((1, False), PLAIN))
        communication = ((((0, 1), (0, 1)), ((1, 0), None)), (((0, 1),),))
        self.assertEqual(self.cycle(program, "sc", choices, communication), ((0, 1),))

    def test_a_cycle_of_two_events(self):
        program = together((ONE, SWAP), (ONE, SWAP), (("load", 1, 0, 1),), memory=(0, 0))
        choices = ((PLAIN, (1, False), PLAIN), (PLAIN, (1, False), PLAIN), (PLAIN, PLAIN))
        row = ((0, 1), (1, 1))
        communication = ((((0, 1), (1, 1)), ((1, 1), (0, 1)), ((2, 0), None)), (row, ()))
        self.assertEqual(sorted(self.cycle(program, "wmm", choices, communication)), [(0, 1), (1, 1)])

    def test_a_cycle_that_other_events_follow(self):
        # Core 2 stores behind the cycle of the first two cores and has more events behind it.
        program = together((ONE, SWAP), (ONE, SWAP), (STORE, STORE, LOAD), memory=(0,))
        choices = ((PLAIN, (1, False), PLAIN), (PLAIN, (1, False), PLAIN), (PLAIN,) * 4)
        row = ((0, 1), (1, 1), (2, 0), (2, 1))
        communication = ((((0, 1), (1, 1)), ((1, 1), (0, 1)), ((2, 2), (2, 1))), (row,))
        events = self.cycle(program, "sc", choices, communication)
        self.assertEqual(sorted(events), [(0, 1), (1, 1)])

    def test_a_cycle_of_four_events_under_one_order_alone(self):
        choices = ((PLAIN,) * 4,) * 2
        communication = ((((0, 2), None), ((1, 2), None)), (((0, 1),), ((1, 1),)))
        events = self.cycle(STORE_BUFFERING, "sc", choices, communication)
        self.assertEqual(len(events), 4)
        self.assertEqual(sorted(events), list(events_of(STORE_BUFFERING, choices)))

    def test_what_is_arranged_is_valid_if_it_is_consistent(self):
        program = together((ONE, STORE, ("fence", "full"), ("load", 2, 0, 1)),
                           (ONE, ("store", 1, 0, 1), ("load", 2, 0, 0)), memory=(0, 0))
        choices = ((PLAIN,) * 5, (PLAIN,) * 4)
        communication = ((((0, 3), None), ((1, 2), None)), (((0, 1),), ((1, 1),)))
        self.expect(True, is_consistent, program, choices, communication)
        name, events = self.call(arrange, program, "tso", choices, communication)
        self.assertEqual(name, "order")
        self.assertIsNone(check(program, "tso", (choices, events)))
        self.assertEqual(communication_of(program, "tso", (choices, events)), communication)


class ExampleTest(Case):
    def test_the_example_of_the_document(self):
        plain = (PLAIN,) * 4
        communication = ((((0, 2), None), ((1, 2), None)), (((0, 1),), ((1, 1),)))
        self.expect((((0, 2), (1, 1)), ((1, 2), (0, 1))), must_follow, STORE_BUFFERING, "tso", (plain, plain),
                    communication)
        self.expect(("order", ((0, 2), (1, 1), (1, 2), (0, 1))), arrange, STORE_BUFFERING, "tso", (plain, plain),
                    communication)
        wanted = (((0, 1), (0, 2)), ((0, 2), (1, 1)), ((1, 1), (1, 2)), ((1, 2), (0, 1)))
        self.expect(wanted, must_follow, STORE_BUFFERING, "sc", (plain, plain), communication)
        self.assertEqual(preserved(STORE_BUFFERING, "sc", (plain, plain)), (wanted[0], wanted[2]))
        name, events = self.call(arrange, STORE_BUFFERING, "sc", (plain, plain), communication)
        self.assertEqual((name, sorted(events)), ("cycle", [(0, 1), (0, 2), (1, 1), (1, 2)]))
