"""Tests: [4], [300] to [302]."""

import random

from litmuscore.errors import TooManySituations
from litmuscore.litmus import decide, holds, observed_values
from litmuscore.outcomes import explore, outcomes_of
from tests.helpers import ORDERS, STORE_BUFFERING, Case, registers
from tests.small import MESSAGE, PROGRAMS

A, B, C = ("equals", 0, 5), ("equals", 1, 0), ("equals", 2, 65535)
WRITER = (("addi", 1, 0, 1), ("store", 1, 0, 0), ("store", 1, 0, 1), ("halt",))
READER = (("load", 1, 0, 1), ("load", 2, 0, 0), ("halt",))
# Core 1 never halts.
ENDLESS = ((("halt",), ("jump", 1)), (0, 1), (7,))


def random_condition(draw, depth, many):
    if depth == 1 or draw.random() < 0.2:
        return ("equals", draw.randrange(many), draw.randrange(2))
    if draw.random() < 0.3:
        return ("not", random_condition(draw, depth - 1, many))
    parts = [random_condition(draw, depth - 1, many) for _ in range(2)]
    return (draw.choice(("and", "or")), *parts)


def in_python(condition):
    """The condition as an expression of Python over the tuple v."""
    if condition[0] == "equals":
        return f"(v[{condition[1]}] == {condition[2]})"
    if condition[0] == "not":
        return f"(not {in_python(condition[1])})"
    return f"({in_python(condition[1])} {condition[0]} {in_python(condition[2])})"


class HoldsTest(Case):
    def test_equals(self):
        values = (5, 0, 65535)
        for index, value in enumerate(values):
            for word in (0, 1, 5, 65534, 65535):
                self.expect(value == word, holds, ("equals", index, word), values)

    def test_not_and_or(self):
        for first in (True, False):
            for second in (True, False):
                values = (5 if first else 6, 0 if second else 1)
                self.expect(not first, holds, ("not", A), values)
                self.expect(first and second, holds, ("and", A, B), values)
                self.expect(first or second, holds, ("or", A, B), values)
                self.expect(first and not second, holds, ("and", A, ("not", B)), values)
                self.expect(not (first or second), holds, ("not", ("or", A, B)), values)

    def test_nested(self):
        draw = random.Random(81)
        for _ in range(150):
            condition = random_condition(draw, draw.randrange(1, 8), 3)
            for number in range(8):
                values = (number & 1, number >> 1 & 1, number >> 2)
                wanted = eval(in_python(condition), {"v": values})
                self.expect(wanted, holds, condition, values)

    def test_deep_and_large(self):
        for depth in (60, 61, 100):
            condition = A
            for _ in range(depth - 1):
                condition = ("not", condition)
            self.expect(depth % 2 == 1, holds, condition, (5,))
            self.expect(depth % 2 == 0, holds, condition, (4,))
            left = right = A
            for _ in range(depth - 1):
                left, right = ("and", left, A), ("or", B, right)
            self.expect(True, holds, left, (5, 1))
            self.expect(False, holds, left, (4, 1))
            self.expect(True, holds, right, (5, 1))
            self.expect(False, holds, right, (4, 1))
        parts = [("equals", 0, word) for word in range(160)]
        while len(parts) > 1:
            parts = [("or", first, second) for first, second in zip(parts[::2], parts[1::2])] + parts[
                len(parts) // 2 * 2:]
        self.expect(True, holds, parts[0], (159,))
        self.expect(False, holds, parts[0], (160,))


class ObservedValuesTest(Case):
    def test_registers_and_words_in_any_order(self):
        states = ((0, registers(r1=3, r7=4), True, -1), (5, registers(r0=0, r2=65535), True, 1))
        result = (states, (10, 11, 12))
        for observed, values in (
            ((("register", 0, 1),), (3,)), ((("register", 1, 2),), (65535,)), ((("word", 2),), (12,)),
            ((("word", 1), ("register", 0, 7), ("word", 0), ("register", 1, 0), ("register", 0, 2)), (11, 4, 10, 0, 0)),
            (tuple(("register", 1, number) for number in range(8)) + tuple(("word", 2 - place) for place in range(3)),
             (0, 0, 65535, 0, 0, 0, 0, 0, 12, 11, 10)),
        ):
            self.expect(values, observed_values, (STORE_BUFFERING, observed, "never", A), result)

    def test_of_all_outcomes(self):
        observed = (("register", 1, 2), ("word", 0), ("register", 0, 2))
        for order in ORDERS:
            for result, _ in outcomes_of(STORE_BUFFERING, order):
                states, memory = result
                self.expect((states[1][1][2], memory[0], states[0][1][2]), observed_values,
                            (STORE_BUFFERING, observed, "always", A), result)


class DecideTest(Case):
    def test_claims(self):
        for program in PROGRAMS:
            observed = (("register", 1, 2), ("register", 0, 2), ("word", 0))
            draw = random.Random(91)
            one = ("equals", 0, 1)
            conditions = [("or", one, ("not", one)), ("and", one, ("not", one))]
            conditions += [random_condition(draw, 3, 3) for _ in range(12)]
            for order in ORDERS:
                results = outcomes_of(program, order)
                values = [observed_values((program, observed, "never", A), result) for result, _ in results]
                for condition in conditions:
                    found = [holds(condition, one) for one in values]
                    for claim, decision in (("exists", any(found)), ("never", not any(found)), ("always", all(found))):
                        self.expect((decision, tuple(sorted(set(values)))), decide,
                                    (program, observed, claim, condition), order)

    def test_all_some_and_none(self):
        # Under "sc" one of the loads reads 1, and they read 0 and 1 in turn.
        observed = (("register", 0, 2), ("register", 1, 2))
        outcomes = ((0, 1), (1, 0), (1, 1))
        some = ("equals", 0, 1)
        every = ("or", ("equals", 0, 1), ("equals", 1, 1))
        none = ("not", every)
        for condition, exists, never, always in ((some, True, False, False), (every, True, False, True),
                                                 (none, False, True, False)):
            for claim, decision in (("exists", exists), ("never", never), ("always", always)):
                self.expect((decision, outcomes), decide, (STORE_BUFFERING, observed, claim, condition), "sc")

    def test_no_outcome(self):
        for order in ORDERS:
            for condition in (("equals", 0, 7), ("not", ("equals", 0, 7))):
                for claim, decision in (("exists", False), ("never", True), ("always", True)):
                    self.expect((decision, ()), decide, (ENDLESS, (("word", 0),), claim, condition), order)

    def test_observed_outcomes_stand_there_once_and_in_ascending_order(self):
        for observed, outcomes in (
            ((("register", 0, 2), ("register", 1, 2)), ((0, 0), (0, 1), (1, 0), (1, 1))),
            ((("register", 1, 2),), ((0,), (1,))), ((("word", 0), ("register", 0, 1)), ((1, 1),)),
            ((("register", 0, 0), ("register", 0, 2), ("word", 1)), ((0, 0, 1), (0, 1, 1))),
        ):
            self.expect((True, outcomes), decide, (STORE_BUFFERING, observed, "never", ("equals", 0, 9)), "tso")

    def test_the_order_of_words_is_not_that_of_strings(self):
        code = (("swap", 2, 0, 1), ("halt",), ("addi", 1, 0, 10), ("store", 1, 0, 0), ("addi", 1, 0, 9),
                ("store", 1, 0, 0), ("halt",))
        test = ((code, (0, 2), (300,)), (("register", 0, 2),), "exists", ("equals", 0, 9))
        for order in ORDERS:
            self.expect((True, ((9,), (10,), (300,))), decide, test, order)

    def test_twelve_observables(self):
        observed = tuple(("register", core, number) for core in (0, 1) for number in range(1, 6)) + (
            ("word", 0), ("word", 1))
        condition = ("and", ("equals", 11, 1), ("equals", 5, 1))
        decision, outcomes = self.call(decide, (STORE_BUFFERING, observed, "always", condition), "sc")
        self.assertEqual((decision, len(outcomes)), (True, 3))
        self.assertEqual(outcomes[0], (1, 0, 0, 0, 0, 1, 1, 0, 0, 0, 1, 1))

    def test_limit(self):
        test = (MESSAGE, (("word", 0),), "exists", ("equals", 0, 1))
        for order in ORDERS:
            many = len(explore(MESSAGE, order))
            self.expect((True, ((1,),)), decide, test, order, limit=many)
            self.expect((True, ((1,),)), decide, test, order)
            for limit in (many - 1, 1):
                self.refuse(TooManySituations, {"limit": limit}, decide, test, order, limit=limit)

    def test_the_limit_is_2000_by_default(self):
        piece = tuple(("store", 0, 0, address) for address in range(8)) + (("halt",),)
        program = (piece, (0, 0, 0), (0,) * 8)
        test = (program, (("word", 0),), "never", ("equals", 0, 1))
        self.refuse(TooManySituations, {"limit": 2000}, decide, test, "tso")

    def test_the_examples(self):
        left = (("addi", 1, 0, 1), ("store", 1, 0, 0), ("fence", "slot"), ("load", 2, 0, 1), ("halt",))
        right = (("addi", 1, 0, 1), ("store", 1, 0, 1), ("fence", "slot"), ("load", 2, 0, 0), ("halt",))
        observed = (("register", 0, 2), ("register", 1, 2))
        test = ((left + right, (0, 5), (0, 0)), observed, "exists", ("and", ("equals", 0, 0), ("equals", 1, 0)))
        self.expect((False, ((0, 1), (1, 0), (1, 1))), decide, test, "sc")
        self.expect((True, ((0, 0), (0, 1), (1, 0), (1, 1))), decide, test, "tso")
        observed = (("register", 1, 1), ("register", 1, 2), ("word", 1))
        test = ((WRITER + READER, (0, 4), (0, 0)), observed, "never", ("and", ("equals", 0, 1), ("equals", 1, 0)))
        self.expect((True, ((0, 0, 1), (0, 1, 1), (1, 1, 1))), decide, test, "tso")
        self.expect((False, ((0, 0, 1), (0, 1, 1), (1, 0, 1), (1, 1, 1))), decide, test, "pso")
