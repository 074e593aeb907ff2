"""Interleaving: [70] to [72]."""

import itertools

from litmuscore.executions import check
from litmuscore.interleaving import interleave
from tests.helpers import PLAIN, STORE_BUFFERING, Case, together

ONE = ("addi", 1, 0, 1)
LINK = ("load linked", 2, 0)
CONDITIONAL = ("store conditional", 3, 0, 1)


def turns(text):
    """Turns of the cores named by digits; an exclamation mark asks the one before it to succeed."""
    found = []
    for sign in text:
        if sign == "!":
            found[-1] = (found[-1][0], True)
        else:
            found.append((int(sign), False))
    return tuple(found)


class TurnsTest(Case):
    def test_no_turns(self):
        self.expect((((), ()), ()), interleave, STORE_BUFFERING, ())

    def test_turns_of_one_core(self):
        choices = ((PLAIN,) * 4, ())
        self.expect((choices, ((0, 1), (0, 2))), interleave, STORE_BUFFERING, turns("0000"))

    def test_cores_that_have_not_halted_at_the_end(self):
        self.expect(((((PLAIN,) * 2), (PLAIN,)), ((0, 1),)), interleave, STORE_BUFFERING, turns("010"))

    def test_turns_of_several_cores(self):
        choices = ((PLAIN, PLAIN, (1, False), PLAIN), (PLAIN, PLAIN, (1, False), PLAIN))
        events = ((0, 1), (1, 1), (1, 2), (0, 2))
        self.expect((choices, events), interleave, STORE_BUFFERING, turns("01011010"))

    def test_a_turn_after_the_core_has_halted(self):
        self.expect(None, interleave, STORE_BUFFERING, turns("00000"))
        self.expect(None, interleave, STORE_BUFFERING, turns("000010"))
        self.assertIsNotNone(interleave(STORE_BUFFERING, turns("00001")))

    def test_what_each_instruction_reads_and_stores(self):
        piece = (ONE, ("swap", 2, 0, 1), ("fetch add", 3, 0, 1), LINK, CONDITIONAL, ("load", 4, 0, 0),
                 ("store", 0, 0, 0), ("load", 5, 0, 0))
        program = together(piece, memory=(7,))
        choices = (PLAIN, (7, False), (1, False), (2, False), (0, True), (1, False), PLAIN, PLAIN)
        events = tuple((0, number) for number in range(1, 8))
        self.expect(((choices,), events), interleave, program, turns("00000!000"))
        failed = (PLAIN, (7, False), (1, False), (2, False), PLAIN, (2, False), PLAIN, PLAIN)
        self.expect(((failed,), events), interleave, program, turns("00000000"))

    def test_steps_that_halt_outside_of_memory(self):
        program = ((("load", 1, 0, 1), ONE, ("store conditional", 2, 1, 0)), (0, 1, 9), (7,))
        self.expect((((PLAIN,), (PLAIN, PLAIN), (PLAIN,)), ()), interleave, program, turns("2011"))
        self.expect(None, interleave, program, turns("11!"))

    def test_every_complete_tuple_of_turns_makes_a_valid_execution(self):
        for order in sorted(set(itertools.permutations("00001111"))):
            self.assertIsNone(check(STORE_BUFFERING, "sc", interleave(STORE_BUFFERING, turns(order))))


class SuccessTest(Case):
    def test_success_of_a_step_that_is_no_store_conditional(self):
        for instruction in (ONE, LINK, ("load", 1, 0, 0), ("store", 1, 0, 0), ("swap", 1, 0, 0), ("halt",),
                            ("fetch add", 1, 0, 0), ("fence", "full"), ("jump", 0), ("load", 1, 0, 5)):
            program = together((instruction,), memory=(0,))
            self.expect(None, interleave, program, turns("0!"))
            self.assertIsNotNone(interleave(program, turns("0")))

    def test_without_a_link_and_with_another_one(self):
        self.expect(None, interleave, together((CONDITIONAL,), memory=(7,)), turns("0!"))
        program = together((ONE, ("load linked", 2, 1), CONDITIONAL), memory=(7, 8))
        self.expect(None, interleave, program, turns("000!"))
        self.assertIsNotNone(interleave(program, turns("000")))
        program = together((LINK, CONDITIONAL, CONDITIONAL), memory=(7,))
        self.expect(None, interleave, program, turns("00!0!"))
        self.expect(None, interleave, program, turns("000!"))

    def test_a_core_that_has_halted(self):
        self.expect(None, interleave, together((LINK,), memory=(7,)), turns("000!"))

    def test_another_core_has_written_since(self):
        for other in (("store", 1, 0, 0), ("swap", 2, 0, 1), ("fetch add", 2, 0, 1)):
            program = together((LINK, CONDITIONAL), (other,), memory=(7,))
            self.expect(None, interleave, program, turns("010!"))
            self.assertIsNotNone(interleave(program, turns("010")))
            self.assertIsNotNone(interleave(program, turns("100!")))
            self.assertIsNotNone(interleave(program, turns("00!1")))

    def test_what_the_own_core_does_afterwards_does_not_matter(self):
        for between in (("load", 2, 0, 0), ("store", 1, 0, 0), ("swap", 2, 0, 1), ("addi", 2, 2, 1)):
            program = together((LINK, between, CONDITIONAL), (("store", 1, 0, 0),), memory=(7,))
            self.expect(None, interleave, program, turns("0100!"))
            self.expect(None, interleave, program, turns("0010!"))
            self.assertIsNotNone(interleave(program, turns("000!")))

    def test_another_core_has_written_the_same_word(self):
        program = together((LINK, CONDITIONAL), (("load", 1, 0, 0), ("store", 1, 0, 0)), memory=(7,))
        self.expect(None, interleave, program, turns("0110!"))
        self.assertIsNotNone(interleave(program, turns("1010")))
        self.expect(None, interleave, program, turns("1010!"))

    def test_another_core_that_stores_conditionally(self):
        program = together((LINK, CONDITIONAL), (LINK, CONDITIONAL), memory=(7,))
        self.expect(None, interleave, program, turns("011!0!"))
        self.assertIsNotNone(interleave(program, turns("011!0")))
        self.assertIsNotNone(interleave(program, turns("0110!")))

    def test_another_core_has_written_elsewhere_or_only_read(self):
        for other in (("store", 1, 0, 1), ("load", 1, 0, 0), LINK, ("store conditional", 1, 0, 1)):
            program = together((LINK, CONDITIONAL), (other,), memory=(7, 7))
            self.assertIsNotNone(interleave(program, turns("010!")))

    def test_only_the_own_core_has_written(self):
        program = together((ONE, LINK, ("store", 1, 0, 0), CONDITIONAL), memory=(7,))
        choices = (PLAIN, (7, False), PLAIN, (0, True))
        self.expect(((choices,), ((0, 1), (0, 2), (0, 3))), interleave, program, turns("0000!"))

    def test_the_last_load_linked_counts(self):
        program = together((LINK, LINK, CONDITIONAL), (("store", 1, 0, 0),), memory=(7,))
        self.expect(None, interleave, program, turns("0010!"))
        self.assertIsNotNone(interleave(program, turns("0100!")))
        program = together((LINK, CONDITIONAL, LINK, CONDITIONAL), (("store", 1, 0, 0),), memory=(7,))
        self.assertIsNotNone(interleave(program, turns("01000!")))


class ExampleTest(Case):
    def test_the_example_of_the_document(self):
        program = ((("addi", 1, 0, 5), ("swap", 2, 0, 1), ("halt",)), (0, 0), (7,))
        wanted = (((PLAIN, (5, False)), (PLAIN, (7, False))), ((1, 1), (0, 1)))
        self.expect(wanted, interleave, program, ((0, False), (1, False), (1, False), (0, False)))
        self.expect(None, interleave, program, ((0, True),))
