"""Executions: [60] to [66]."""

from litmuscore.errors import InvalidExecution
from litmuscore.executions import check, events_of, outcome, preserved
from tests.helpers import LEFT, ORDERS, PLAIN, STORE_BUFFERING, Case, registers, together

ONE = ("addi", 1, 0, 1)
INSTRUCTIONS = {
    "load": lambda ra: ("load", 2, ra, 0),
    "store": lambda ra: ("store", 1, ra, 0),
    "swap": lambda ra: ("swap", 2, ra, 1),
    "fetch add": lambda ra: ("fetch add", 2, ra, 1),
    "load linked": lambda ra: ("load linked", 2, ra),
    "store conditional": lambda ra: ("store conditional", 2, ra, 1),
}


def expected(order, former, latter, same, fence):
    """The table of [62], row by row, for the kinds load, store and atomic."""
    if latter == "atomic":
        return True
    if former != "store" and latter == "store":
        return True
    if former != "store":
        return order != "wmm" or same or fence in ("loads", "full")
    if latter == "store":
        return order in ("sc", "tso") or same or fence in ("stores", "full")
    return order == "sc" or fence == "full"


def kind(name):
    return name if name in ("load", "store") else "atomic"


class EventsTest(Case):
    def test_steps_with_an_access(self):
        self.expect(((0, 1), (0, 2), (1, 1), (1, 2)), events_of, STORE_BUFFERING, ((PLAIN,) * 4, (PLAIN,) * 4))

    def test_runs_that_have_not_halted_and_empty_ones(self):
        self.expect(((1, 1),), events_of, STORE_BUFFERING, ((), (PLAIN, PLAIN)))
        self.expect((), events_of, STORE_BUFFERING, ((PLAIN,), ()))

    def test_every_kind_of_access(self):
        piece = [make(0) for make in INSTRUCTIONS.values()] + [("fence", "full"), ("load", 1, 0, 9)]
        program = together(piece, memory=(0,))
        # The store conditional comes behind the load linked and fails; the last load halts the core.
        self.expect(tuple((0, k) for k in range(6)), events_of, program, ((PLAIN,) * 8,))

    def test_a_step_counts_each_time_it_is_taken(self):
        program = ((("load", 1, 0, 0), ("branch", "eq", 1, 0, 0), ("halt",)), (0,), (0,))
        self.expect(((0, 0), (0, 2), (0, 4)), events_of, program, ((PLAIN,) * 4 + ((1, False), PLAIN, PLAIN),))


class PreservedTest(Case):
    def pairs(self, order, former, latter, same, fence):
        """The pairs for: addi, former at the address 1, fence or slot, latter."""
        piece = (ONE, INSTRUCTIONS[former](1), ("fence", fence), INSTRUCTIONS[latter](1 if same else 0))
        program = together(piece, memory=(0, 0))
        choices = [PLAIN] * 4
        if former == "load linked":
            choices[1] = (0, False)
        return self.call(preserved, program, order, (tuple(choices),))

    def test_the_whole_table(self):
        for order in ORDERS:
            for former in INSTRUCTIONS:
                for latter in INSTRUCTIONS:
                    for same in (True, False):
                        for fence in ("slot", "loads", "stores", "full"):
                            wanted = expected(order, kind(former), kind(latter), same, fence)
                            found = self.pairs(order, former, latter, same, fence)
                            message = (order, former, latter, same, fence)
                            self.assertEqual(found, (((0, 1), (0, 3)),) if wanted else (), message)

    def test_rows_of_the_table_one_by_one(self):
        pair = (((0, 1), (0, 3)),)
        for order, former, latter, same, fence, wanted in (
            ("wmm", "store", "swap", False, "slot", pair),
            ("wmm", "load", "load linked", False, "slot", pair),
            ("wmm", "store", "store conditional", False, "slot", pair),
            ("wmm", "load", "store", False, "slot", pair),
            ("wmm", "store conditional", "store", False, "slot", pair),
            ("pso", "load", "load", False, "slot", pair),
            ("wmm", "load", "load", False, "slot", ()),
            ("wmm", "load", "load", True, "slot", pair),
            ("wmm", "swap", "load", False, "slot", ()),
            ("wmm", "swap", "load", True, "slot", pair),
            ("wmm", "load", "load", False, "loads", pair),
            ("wmm", "load", "load", False, "stores", ()),
            ("wmm", "load", "load", False, "full", pair),
            ("tso", "store", "store", False, "slot", pair),
            ("pso", "store", "store", False, "slot", ()),
            ("pso", "store", "store", True, "slot", pair),
            ("pso", "store", "store", False, "loads", ()),
            ("wmm", "store", "store", False, "stores", pair),
            ("sc", "store", "load", False, "slot", pair),
            ("tso", "store", "load", False, "slot", ()),
            ("tso", "store", "load", True, "slot", ()),
            ("tso", "store", "load", False, "loads", ()),
            ("wmm", "store", "load", True, "stores", ()),
            ("wmm", "store", "load", False, "full", pair),
        ):
            self.assertEqual(self.pairs(order, former, latter, same, fence), wanted, (order, former, latter, fence))

    def test_a_store_conditional_that_succeeds(self):
        program = together((("load linked", 1, 0), ("store conditional", 2, 0, 1), ("load", 3, 0, 1)), memory=(0, 0))
        runs = (((0, False), (0, True), PLAIN),)
        self.expect((((0, 0), (0, 1)),), preserved, program, "wmm", runs)
        self.expect((((0, 0), (0, 1)), ((0, 0), (0, 2)), ((0, 1), (0, 2))), preserved, program, "pso", runs)

    def test_only_a_fence_between_the_two_counts(self):
        fence = ("fence", "full")
        program = together((fence, ("store", 0, 0, 0), ("load", 1, 0, 1), fence), memory=(0, 0))
        self.expect((), preserved, program, "wmm", ((PLAIN,) * 4,))

    def test_a_halting_step_and_a_slot_act_as_no_fence(self):
        program = together((("store", 0, 0, 0), ("fence", "slot"), ("load", 1, 0, 1)), memory=(0, 0))
        self.expect((), preserved, program, "tso", ((PLAIN,) * 4,))

    def test_ascending_order_over_all_cores(self):
        fence = ("fence", "full")
        piece = (("store", 0, 0, 0), fence, ("load", 1, 0, 1), ("swap", 1, 0, 0))
        program = together(piece, piece, memory=(0, 0))
        wanted = []
        for core in (0, 1):
            for former, latter in ((0, 2), (0, 3), (2, 3)):
                wanted.append(((core, former), (core, latter)))
        self.expect(tuple(wanted), preserved, program, "wmm", ((PLAIN,) * 5, (PLAIN,) * 5))

    def test_cores_do_not_precede_each_other(self):
        self.expect((((0, 1), (0, 2)), ((1, 1), (1, 2))), preserved, STORE_BUFFERING, "sc",
                    ((PLAIN,) * 4, (PLAIN,) * 3))
        self.expect((), preserved, STORE_BUFFERING, "sc", ((), (PLAIN, PLAIN)))


class CheckTest(Case):
    whole = (PLAIN,) * 4
    events = ((0, 1), (0, 2), (1, 1), (1, 2))

    def violation(self, choices, events, order="tso", program=STORE_BUFFERING):
        return self.call(check, program, order, (choices, events))

    def test_too_few_and_too_many_runs(self):
        for choices in ((), (self.whole,), (self.whole,) * 3, (self.whole,) * 6, (((0, True),), (), ())):
            self.assertEqual(self.violation(choices, ()), ("cores",))

    def test_a_choice_that_is_not_possible(self):
        bad = (0, True)
        for number in range(4):
            run = self.whole[:number] + (bad,) + self.whole[number + 1:]
            self.assertEqual(self.violation((run, self.whole), self.events), ("run", 0, number))
            self.assertEqual(self.violation((self.whole, run), self.events), ("run", 1, number))
        self.assertEqual(self.violation((self.whole + (PLAIN,), self.whole), self.events), ("run", 0, 4))

    def test_a_core_that_has_not_halted(self):
        self.assertEqual(self.violation(((), self.whole), self.events), ("unfinished", 0))
        self.assertEqual(self.violation((self.whole, self.whole[:3]), self.events), ("unfinished", 1))

    def test_runs_are_examined_core_by_core(self):
        bad = ((1, False),)
        self.assertEqual(self.violation(((), bad), ()), ("unfinished", 0))
        self.assertEqual(self.violation((bad, ()), ()), ("run", 0, 0))
        self.assertEqual(self.violation((self.whole[:2] + ((0, True),), self.whole), ()), ("run", 0, 2))

    def test_events(self):
        both = (self.whole, self.whole)
        for events in (
            (), self.events[:3], self.events + ((0, 1),), ((0, 1), (0, 2), (1, 1), (1, 1)),
            self.events + ((0, 0),), ((0, 0),) + self.events[1:], self.events + ((0, 3),),
            self.events[:3] + ((1, 4),), self.events[:3] + ((2, 1),), self.events + ((7, 1000),),
        ):
            self.assertEqual(self.violation(both, events), ("events",), events)

    def test_the_events_are_examined_before_the_rules(self):
        both = (self.whole, self.whole)
        self.assertEqual(self.violation(both, ((0, 2), (0, 1), (1, 1)), order="sc"), ("events",))

    def test_order(self):
        late = ((self.whole, self.whole), ((0, 2), (1, 2), (0, 1), (1, 1)))
        self.expect(("order", (0, 1), (0, 2)), check, STORE_BUFFERING, "sc", late)
        for order in ("tso", "pso", "wmm"):
            self.expect(None, check, STORE_BUFFERING, order, late)

    def test_the_first_event_that_is_not_earlier(self):
        piece = (("store", 0, 0, 0), ("store", 0, 0, 1), ("load", 1, 0, 0), ("swap", 1, 0, 0))
        program = together(piece, memory=(0, 0))
        runs = ((PLAIN,) * 5,)
        for events, violation in (
            (((0, 3), (0, 2), (0, 1), (0, 0)), ("order", (0, 0), (0, 3))),
            (((0, 0), (0, 3), (0, 2), (0, 1)), ("order", (0, 1), (0, 3))),
            (((0, 0), (0, 1), (0, 3), (0, 2)), ("order", (0, 2), (0, 3))),
            (((0, 1), (0, 0), (0, 3), (0, 2)), ("order", (0, 2), (0, 3))),
            (((0, 2), (0, 1), (0, 3), (0, 0)), ("order", (0, 0), (0, 3))),
            (((0, 2), (0, 1), (0, 0), (0, 3)), None),
        ):
            self.assertEqual(self.violation(runs, events, "pso", program), violation, events)
        self.assertEqual(self.violation(runs, ((0, 2), (0, 1), (0, 0), (0, 3)), "tso", program),
                         ("order", (0, 0), (0, 1)))

    def test_value(self):
        both = (self.whole, self.whole)
        self.assertEqual(self.violation(both, self.events), ("value", (1, 2)))
        self.assertEqual(self.violation(both, ((1, 1), (1, 2), (0, 1), (0, 2))), ("value", (0, 2)))
        reads_one = (PLAIN, PLAIN, (1, False), PLAIN)
        self.assertIsNone(self.violation((self.whole, reads_one), self.events))
        self.assertEqual(self.violation((reads_one, reads_one), self.events), ("value", (0, 2)))
        self.assertIsNone(self.violation((reads_one, reads_one), ((0, 1), (1, 1), (0, 2), (1, 2))))

    def test_what_is_wrong_first_counts(self):
        piece = (("load", 1, 0, 0), ("load", 2, 0, 1))
        program = together(piece, memory=(0, 0))
        wrong_first = (((5, False), PLAIN, PLAIN),)
        wrong_last = ((PLAIN, (5, False), PLAIN),)
        self.assertEqual(self.violation(wrong_first, ((0, 0), (0, 1)), "tso", program), ("value", (0, 0)))
        self.assertEqual(self.violation(wrong_first, ((0, 1), (0, 0)), "tso", program), ("order", (0, 0), (0, 1)))
        self.assertEqual(self.violation(wrong_last, ((0, 1), (0, 0)), "tso", program), ("order", (0, 0), (0, 1)))
        self.assertEqual(self.violation(wrong_last, ((0, 1), (0, 0)), "wmm", program), ("value", (0, 1)))

    def test_atomic_accesses_read_the_word_of_memory(self):
        for instruction in (("swap", 2, 0, 1), ("fetch add", 2, 0, 1), ("load linked", 2, 0)):
            program = together((instruction,), ((("store", 0, 0, 0)),), memory=(7,))
            for events, word in ((((0, 0), (1, 0)), 7), (((1, 0), (0, 0)), 0)):
                for read in (0, 7, 9):
                    wanted = None if read == word else ("value", (0, 0))
                    choices = (((read, False), PLAIN), (PLAIN, PLAIN))
                    self.assertEqual(self.violation(choices, events, "wmm", program), wanted)

    def test_what_atomic_accesses_store(self):
        piece = (ONE, ("swap", 2, 0, 1), ("fetch add", 3, 0, 1), ("load linked", 4, 0),
                 ("store conditional", 5, 0, 3), ("load", 6, 0, 0))
        program = together(piece, memory=(7,))
        choices = ((PLAIN, (7, False), (1, False), (2, False), (0, True), (1, False), PLAIN),)
        events = tuple((0, number) for number in range(1, 6))
        self.assertIsNone(self.violation(choices, events, "sc", program))
        self.assertEqual(outcome(program, "sc", (choices, events)),
                         (((6, registers(r1=1, r2=7, r3=1, r4=2, r6=1), True, -1),), (1,)))


class VisibleWordTest(Case):
    # Core 0 stores 1 and 2 and then loads; core 1 stores 9 to the same address.
    program = together((ONE, ("addi", 2, 0, 2), ("store", 1, 0, 0), ("store", 2, 0, 0), ("load", 3, 0, 0)),
                       (("addi", 1, 0, 9), ("store", 1, 0, 0)), memory=(7,))

    def read(self, word, events, order="tso"):
        choices = ((PLAIN,) * 4 + ((word, False), PLAIN), (PLAIN,) * 3)
        return self.call(check, self.program, order, (choices, events))

    def only(self, word, events, order="tso"):
        for other in (0, 1, 2, 7, 9):
            wanted = None if other == word else ("value", (0, 4))
            self.assertEqual(self.read(other, events, order), wanted, (other, events))

    def test_the_last_own_store_that_is_not_earlier(self):
        for order in ("tso", "pso", "wmm"):
            self.only(2, ((0, 4), (0, 2), (0, 3), (1, 1)), order)
            self.only(2, ((0, 2), (0, 4), (0, 3), (1, 1)), order)
            self.only(2, ((0, 2), (1, 1), (0, 4), (0, 3)), order)
            self.only(2, ((1, 1), (0, 4), (0, 2), (0, 3)), order)

    def test_the_word_of_memory(self):
        self.only(2, ((0, 2), (1, 1), (0, 3), (0, 4)), "sc")
        self.only(9, ((0, 2), (0, 3), (1, 1), (0, 4)), "sc")
        self.only(2, ((1, 1), (0, 2), (0, 3), (0, 4)), "wmm")

    def test_the_word_at_the_start(self):
        program = together((("load", 1, 0, 0), ("store", 0, 0, 0)), memory=(7,))
        for word, wanted in ((7, None), (0, ("value", (0, 0)))):
            execution = ((((word, False), PLAIN, PLAIN),), ((0, 0), (0, 1)))
            self.expect(wanted, check, program, "wmm", execution)

    def test_a_store_conditional_that_fails_is_no_write(self):
        program = together((ONE, ("store conditional", 2, 0, 1), ("load", 3, 0, 0)), memory=(7,))
        execution = (((PLAIN, PLAIN, (7, False), PLAIN),), ((0, 1), (0, 2)))
        self.expect(None, check, program, "wmm", execution)

    def test_a_store_to_another_address_does_not_count(self):
        program = together((("store", 0, 0, 1), ("load", 3, 0, 0)), memory=(7, 8))
        self.expect(None, check, program, "tso", (((PLAIN, (7, False), PLAIN),), ((0, 1), (0, 0))))


class AtomicityTest(Case):
    linked = (ONE, ("load linked", 2, 0), ("store conditional", 3, 0, 1))

    def check_with(self, other, events, order="wmm", other_choices=PLAIN, word=7, success=True):
        program = together(self.linked, (ONE, other), memory=(7, 7))
        choices = ((PLAIN, (word, False), (0, success), PLAIN), (PLAIN, other_choices, PLAIN))
        return self.call(check, program, order, (choices, events))

    def test_a_write_by_another_core_between_the_two(self):
        for other, choice in ((("store", 1, 0, 0), PLAIN), (("swap", 2, 0, 1), (7, False)),
                              (("fetch add", 2, 0, 1), (7, False)), (("store", 0, 0, 0), PLAIN)):
            events = ((0, 1), (1, 1), (0, 2))
            self.assertEqual(self.check_with(other, events, other_choices=choice), ("atomicity", (0, 2)))
            self.assertIsNone(self.check_with(other, events, other_choices=choice, success=False))

    def test_a_write_before_or_behind_the_two(self):
        self.assertIsNone(self.check_with(("store", 1, 0, 0), ((1, 1), (0, 1), (0, 2)), word=1))
        self.assertIsNone(self.check_with(("store", 1, 0, 0), ((0, 1), (0, 2), (1, 1))))

    def test_a_write_to_another_address_and_what_is_no_write(self):
        events = ((0, 1), (1, 1), (0, 2))
        self.assertIsNone(self.check_with(("store", 1, 0, 1), events))
        self.assertIsNone(self.check_with(("load", 1, 0, 0), events, other_choices=(7, False)))
        self.assertIsNone(self.check_with(("load linked", 1, 0), events, other_choices=(7, False)))
        self.assertIsNone(self.check_with(("store conditional", 1, 0, 1), events))

    def test_a_write_with_the_same_word_counts_too(self):
        program = together(self.linked, (("addi", 1, 0, 7), ("store", 1, 0, 0)), memory=(7,))
        choices = ((PLAIN, (7, False), (0, True), PLAIN), (PLAIN,) * 3)
        self.expect(("atomicity", (0, 2)), check, program, "sc", (choices, ((0, 1), (1, 1), (0, 2))))

    def test_the_own_core_may_write(self):
        piece = (ONE, ("load linked", 2, 0), ("store", 0, 0, 0), ("store conditional", 3, 0, 1))
        program = together(piece, memory=(7,))
        choices = ((PLAIN, (7, False), PLAIN, (0, True), PLAIN),)
        self.expect(None, check, program, "sc", (choices, ((0, 1), (0, 2), (0, 3))))

    def test_other_steps_between_the_two(self):
        piece = (("load linked", 2, 0), ONE, ("load", 4, 0, 0), ("fence", "full"), ("store conditional", 3, 0, 1))
        program = together(piece, (("store", 0, 0, 0),), memory=(0,))
        choices = ((PLAIN,) * 4 + ((0, True), PLAIN), (PLAIN, PLAIN))
        self.expect(None, check, program, "sc", (choices, ((1, 0), (0, 0), (0, 2), (0, 4))))
        for events in (((0, 0), (1, 0), (0, 2), (0, 4)), ((0, 0), (0, 2), (1, 0), (0, 4))):
            self.expect(("atomicity", (0, 4)), check, program, "sc", (choices, events))

    def test_the_last_load_linked_counts(self):
        piece = (ONE, ("load linked", 2, 0), ("load linked", 2, 0), ("store conditional", 3, 0, 1))
        program = together(piece, (("store", 0, 0, 0),), memory=(7,))
        other = (PLAIN, PLAIN)
        choices = ((PLAIN, (7, False), (0, False), (0, True), PLAIN), other)
        self.expect(None, check, program, "sc", (choices, ((0, 1), (1, 0), (0, 2), (0, 3))))
        choices = ((PLAIN, (7, False), (7, False), (0, True), PLAIN), other)
        self.expect(("atomicity", (0, 3)), check, program, "sc", (choices, ((0, 1), (0, 2), (1, 0), (0, 3))))

    def test_the_rule_of_order_comes_first(self):
        self.assertEqual(self.check_with(("store", 1, 0, 0), ((1, 1), (0, 2), (0, 1))), ("order", (0, 1), (0, 2)))


class OutcomeTest(Case):
    whole = (PLAIN,) * 4

    def test_of_a_valid_execution(self):
        execution = ((self.whole, self.whole), ((0, 2), (1, 2), (0, 1), (1, 1)))
        states = ((3, registers(r1=1), True, -1), (7, registers(r1=1), True, -1))
        self.expect((states, (1, 1)), outcome, STORE_BUFFERING, "tso", execution)

    def test_the_last_write_stays_in_memory(self):
        piece = (("store", 1, 0, 0),)
        program = together((ONE, *piece), (("addi", 1, 0, 2), *piece), memory=(7, 8))
        choices = ((PLAIN,) * 3, (PLAIN,) * 3)
        for events, word in ((((0, 1), (1, 1)), 2), (((1, 1), (0, 1)), 1)):
            self.assertEqual(self.call(outcome, program, "sc", (choices, events))[1], (word, 8))

    def test_without_events(self):
        program = ((), (3,), (5, 6))
        state = (3, registers(), True, -1)
        self.expect(((state,), (5, 6)), outcome, program, "sc", (((PLAIN,),), ()))

    def test_the_error_has_the_violation(self):
        both = (self.whole, self.whole)
        ordered = ((0, 1), (0, 2), (1, 1), (1, 2))
        for order, execution in (
            ("sc", ((self.whole,), ())), ("sc", ((((0, True),), self.whole), ())), ("sc", (((), ()), ())),
            ("sc", (both, ())), ("sc", (both, ((0, 2), (1, 2), (0, 1), (1, 1)))), ("wmm", (both, ordered)),
        ):
            violation = check(STORE_BUFFERING, order, execution)
            self.assertIsNotNone(violation)
            with self.assertRaises(InvalidExecution) as caught:
                outcome(STORE_BUFFERING, order, execution)
            self.assertEqual(caught.exception.violation, violation)

    def test_the_error_for_atomicity(self):
        program = together(AtomicityTest.linked, (("store", 0, 0, 0),), memory=(7,))
        choices = ((PLAIN, (7, False), (0, True), PLAIN), (PLAIN, PLAIN))
        with self.assertRaises(InvalidExecution) as caught:
            outcome(program, "sc", (choices, ((0, 1), (1, 0), (0, 2))))
        self.assertEqual(caught.exception.violation, ("atomicity", (0, 2)))


class ExampleTest(Case):
    def test_the_example_of_the_document(self):
        plain = (PLAIN,) * 4
        late = ((plain, plain), ((0, 2), (1, 2), (0, 1), (1, 1)))
        self.expect(None, check, STORE_BUFFERING, "tso", late)
        self.expect(("order", (0, 1), (0, 2)), check, STORE_BUFFERING, "sc", late)
        execution = ((plain, plain), ((0, 1), (0, 2), (1, 1), (1, 2)))
        self.expect(("value", (1, 2)), check, STORE_BUFFERING, "sc", execution)

    def test_more_cores_than_the_document_lets(self):
        program = (LEFT, (0,) * 6, (0, 0))
        execution = (((PLAIN,) * 4,) * 6, tuple((core, step) for core in range(6) for step in (1, 2)))
        self.expect(None, check, program, "sc", execution)
