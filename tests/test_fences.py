"""Fences: [320] to [325]."""

import functools
import inspect
import itertools
import random

from litmuscore.errors import InvalidExecution, TooManySituations, TooManySlots
from litmuscore.executions import check, outcome
from litmuscore.fences import (barring, check_certificate, cheapest, fences_of, is_sufficient, needless, plan_cost,
                               plans, slots_of, with_plan)
from litmuscore.litmus import observed_values
from litmuscore.outcomes import explore, outcomes_of
from tests.drawn import drawn_execution
from tests.helpers import ORDERS, PLAIN, STORE_BUFFERING, Case, together

ONE, SLOT = ("addi", 1, 0, 1), ("fence", "slot")
KINDS = ("none", "loads", "stores", "full")
BUFFERED = (ONE, ("store", 1, 0, 0), SLOT, ("load", 2, 0, 1))
MIRRORED = (ONE, ("store", 1, 0, 1), SLOT, ("load", 2, 0, 0))
WRITER = (ONE, ("store", 1, 0, 0), SLOT, ("store", 1, 0, 1))
READER = (("load", 1, 0, 1), SLOT, ("load", 2, 0, 0))
LOADS = (("register", 0, 2), ("register", 1, 2))


def asked(*cores, observed, words=2):
    return (together(*cores, memory=(0,) * words), observed, "never", ("equals", 0, 0))


SB = asked(BUFFERED, MIRRORED, observed=LOADS)
MP = asked(WRITER, READER, observed=(("register", 1, 1), ("register", 1, 2)))
THREE = asked((ONE, ("store", 1, 0, 0), SLOT, ("store", 1, 0, 1), SLOT, ("load", 2, 0, 0)), READER,
                observed=(("register", 1, 1), ("register", 1, 2), ("register", 0, 2)))
NONE = (STORE_BUFFERING, LOADS, "always", ("equals", 0, 0))
FOUR = asked((SLOT, SLOT), (SLOT,), (SLOT,), observed=(("word", 0),))
# Core 1 never halts.
ENDLESS = (((ONE, SLOT, ("halt",), ("jump", 3)), (0, 3), (7,)), (("word", 0),), "never", ("equals", 0, 0))
TESTS = (SB, MP, THREE, NONE)


def planned(test, plan):
    return (with_plan(test[0], plan), *test[1:])


@functools.lru_cache(maxsize=None)
def observed(test, order):
    """The observed outcomes, as the document tells them."""
    return {observed_values(test, result) for result, _ in outcomes_of(test[0], order)}


def all_plans(test):
    return list(itertools.product(KINDS, repeat=len(slots_of(test[0]))))


def suffices(test, order, wanted, plan):
    return observed(planned(test, plan), order) <= observed(test, wanted)


def refutes(test, order, wanted, plan, execution):
    program = with_plan(test[0], plan)
    return (check(program, order, execution) is None
            and observed_values(test, outcome(program, order, execution)) not in observed(test, wanted))


class PlansTest(Case):
    def test_slots_and_fences(self):
        code = (("fence", "full"), SLOT, ("halt",), ("fence", "loads"), SLOT, ("fence", "stores"), SLOT, ONE)
        for entries in ((0,), (2,), (24, 24)):
            self.expect((1, 4, 6), slots_of, (code, entries, (0,)))
            self.expect((0, 3, 5), fences_of, (code, entries, (0,)))
        for program in (((), (0,), (0,)), STORE_BUFFERING):
            self.expect((), slots_of, program)
            self.expect((), fences_of, program)
        self.expect(tuple(range(24)), slots_of, ((SLOT,) * 24, (0,), (0,)))

    def test_plans(self):
        self.assertTrue(inspect.isgeneratorfunction(plans))
        self.assertEqual(list(plans(0)), [()])
        self.assertEqual(list(plans(1)), [("none",), ("loads",), ("stores",), ("full",)])
        for many in range(4):
            found = list(plans(many))
            self.assertEqual(found, list(itertools.product(KINDS, repeat=many)))
            self.assertEqual(list(plans(many)), found)
        self.assertEqual(list(plans(2))[:6], [("none", "none"), ("none", "loads"), ("none", "stores"), ("none", "full"),
                                              ("loads", "none"), ("loads", "loads")])

    def test_the_program_with_a_plan(self):
        code = (SLOT, ONE, ("fence", "full"), SLOT, ("halt",), SLOT)
        for plan in itertools.product(KINDS, repeat=3):
            placed = [SLOT if kind == "none" else ("fence", kind) for kind in plan]
            wanted = (placed[0], ONE, ("fence", "full"), placed[1], ("halt",), placed[2])
            self.expect((wanted, (0, 5), (7, 8)), with_plan, (code, (0, 5), (7, 8)), plan)
        self.expect(STORE_BUFFERING, with_plan, STORE_BUFFERING, ())
        self.expect(((SLOT, ("fence", "loads"), SLOT, ("fence", "full")), (0,), (0,)), with_plan,
                    ((SLOT,) * 4, (0,), (0,)), ("none", "loads", "none", "full"))

    def test_costs(self):
        for costs in ((0, 0, 0), (1, 10, 100), (1000000, 1000000, 1000000), (0, 5, 1000000)):
            prices = dict(zip(KINDS, (0, *costs)))
            for many in range(4):
                for plan in itertools.product(KINDS, repeat=many):
                    self.expect(sum(prices[kind] for kind in plan), plan_cost, plan, costs)
        self.expect(3000000, plan_cost, ("full",) * 3, (0, 0, 1000000))
        self.expect(0, plan_cost, (), (1, 2, 3))


class TooManyTest(Case):
    def test_too_many_slots(self):
        for many in (4, 5, 24):
            test = (((SLOT,) * many, (0, 0), (0,)), (("word", 0),), "never", ("equals", 0, 0))
            plan = ("none",) * many
            for limit in (1, 2000):
                for order, wanted in itertools.product(ORDERS, repeat=2):
                    self.refuse(TooManySlots, {"many": many}, is_sufficient, test, order, wanted, plan, limit=limit)
                    self.refuse(TooManySlots, {"many": many}, cheapest, test, order, wanted, (1, 1, 1), limit=limit)
                    self.refuse(TooManySlots, {"many": many}, check_certificate, test, order, wanted, (1, 1, 1), plan,
                                (), limit=limit)
        self.refuse(TooManySlots, {"many": 4}, is_sufficient, FOUR, "sc", "sc", ("none",) * 4)

    def test_slots_that_no_core_reaches_count(self):
        program = ((("halt",),) + (SLOT,) * 4, (0,), (0,))
        test = (program, (("word", 0),), "never", ("equals", 0, 0))
        self.refuse(TooManySlots, {"many": 4}, cheapest, test, "sc", "sc", (0, 0, 0))
        fenced = planned(test, ("full", "none", "none", "none"))
        self.expect((("none",) * 3, 0, ()), cheapest, fenced, "sc", "sc", (0, 0, 0))

    def test_three_slots_are_not_too_many(self):
        test = (((SLOT,) * 3, (0,), (0,)), (("word", 0),), "never", ("equals", 0, 0))
        self.expect(True, is_sufficient, test, "wmm", "sc", ("none",) * 3)
        self.expect((("none",) * 3, 0, ()), cheapest, test, "wmm", "sc", (0, 0, 0))
        self.expect(True, check_certificate, test, "wmm", "sc", (0, 0, 0), ("none",) * 3, ())

    def test_functions_that_take_any_number_of_slots(self):
        program = FOUR[0]
        execution = (((PLAIN,) * 3, (PLAIN,) * 2, (PLAIN,) * 2), ())
        self.expect((), barring, program, "wmm", execution)
        self.expect((), needless, FOUR, "wmm")

    def test_too_many_situations(self):
        for order, wanted in (("wmm", "sc"), ("sc", "wmm"), ("tso", "tso"), ("pso", "tso")):
            good = len(explore(MP[0], wanted))
            for plan in (("none", "none"), ("full", "full"), ("stores", "loads")):
                many = max(good, len(explore(with_plan(MP[0], plan), order)))
                for function, more in ((is_sufficient, (plan,)), (check_certificate, ((1, 1, 1), plan, ()))):
                    self.assertIn(self.call(function, MP, order, wanted, *more, limit=many), (True, False))
                    less = many - 1
                    self.refuse(TooManySituations, {"limit": less}, function, MP, order, wanted, *more, limit=less)
            most = max([good] + [len(explore(with_plan(MP[0], plan), order)) for plan in all_plans(MP)])
            self.assertIsNotNone(self.call(cheapest, MP, order, wanted, (1, 1, 3), limit=most))
            self.refuse(TooManySituations, {"limit": 1}, cheapest, MP, order, wanted, (1, 1, 3), limit=1)


class SufficientTest(Case):
    def test_all_plans(self):
        for test in TESTS[:2] + TESTS[3:]:
            for order, wanted in itertools.product(ORDERS, repeat=2):
                for plan in all_plans(test):
                    self.expect(suffices(test, order, wanted, plan), is_sufficient, test, order, wanted, plan)

    def test_store_buffering(self):
        for order in ("tso", "pso", "wmm"):
            for plan in all_plans(SB):
                self.expect(plan == ("full", "full"), is_sufficient, SB, order, "sc", plan)

    def test_message_passing(self):
        for order, plan, sufficient in (
            ("tso", ("none", "none"), True), ("pso", ("none", "none"), False), ("pso", ("loads", "full"), False),
            ("pso", ("stores", "none"), True), ("pso", ("full", "none"), True), ("wmm", ("stores", "none"), False),
            ("wmm", ("none", "loads"), False), ("wmm", ("stores", "loads"), True), ("wmm", ("stores", "full"), True),
            ("wmm", ("full", "stores"), False),
        ):
            self.expect(sufficient, is_sufficient, MP, order, "sc", plan)

    def test_where_the_order_is_not_weaker_than_the_wanted_one(self):
        for place, order in enumerate(ORDERS):
            for wanted in ORDERS[place:]:
                for test in (SB, MP, NONE):
                    for plan in all_plans(test)[::3]:
                        self.expect(True, is_sufficient, test, order, wanted, plan)

    def test_without_an_outcome(self):
        # A program with no outcome at all has no outcome that is not wanted.
        for order, wanted in itertools.product(ORDERS, repeat=2):
            for plan in all_plans(ENDLESS):
                self.expect(True, is_sufficient, ENDLESS, order, wanted, plan)
            self.expect((("none",), 0, ()), cheapest, ENDLESS, order, wanted, (1, 1, 1))

    def test_without_slots(self):
        self.expect(True, is_sufficient, NONE, "sc", "sc", ())
        self.expect(False, is_sufficient, NONE, "tso", "sc", ())
        self.expect(True, is_sufficient, NONE, "tso", "wmm", ())

    def test_claim_and_condition_do_not_matter(self):
        for claim in ("exists", "never", "always"):
            for condition in (("equals", 0, 0), ("not", ("equals", 1, 1))):
                test = (*MP[:2], claim, condition)
                self.expect(False, is_sufficient, test, "pso", "sc", ("none", "loads"))
                self.assertEqual(self.call(cheapest, test, "pso", "sc", (1, 1, 3))[:2], (("stores", "none"), 1))


class CheapestTest(Case):
    def cheap(self, test, order, wanted, costs):
        """The plan and its cost; the certificate refutes each plan that costs less, and has no more for them."""
        found = self.call(cheapest, test, order, wanted, costs)
        if found is None:
            return None
        plan, cost, certificate = found
        self.assertEqual(cost, plan_cost(plan, costs))
        self.expect(True, check_certificate, test, order, wanted, costs, plan, certificate)
        cheaper = [other for other in all_plans(test) if plan_cost(other, costs) < cost]
        self.assertLessEqual(len(certificate), len(cheaper))
        for other in cheaper:
            self.assertTrue(any(refutes(test, order, wanted, other, execution) for execution in certificate))
        return (plan, cost)

    def wanted(self, test, order, wanted, costs):
        """The cheapest plan and its cost, as the document tells them."""
        found = [(plan_cost(plan, costs), place, plan) for place, plan in enumerate(all_plans(test))
                 if suffices(test, order, wanted, plan)]
        return (min(found)[2], min(found)[0]) if found else None

    def test_all_orders_and_some_costs(self):
        for test in (SB, MP, NONE):
            for order, wanted in itertools.product(ORDERS, repeat=2):
                for costs in ((1, 1, 3), (0, 0, 0), (5, 2, 1), (0, 1, 0), (1000000, 0, 999999), (1, 1, 1)):
                    self.assertEqual(self.cheap(test, order, wanted, costs), self.wanted(test, order, wanted, costs))

    def test_three_slots(self):
        for order, wanted, costs in (("wmm", "sc", (1, 1, 3)), ("wmm", "sc", (1, 0, 2)), ("pso", "sc", (1, 2, 3)),
                                     ("wmm", "tso", (3, 2, 1)), ("tso", "sc", (1, 1, 1)), ("pso", "tso", (0, 0, 0))):
            self.assertEqual(self.cheap(THREE, order, wanted, costs), self.wanted(THREE, order, wanted, costs))

    def test_the_first_of_several_with_the_same_cost(self):
        self.assertEqual(self.cheap(SB, "tso", "sc", (0, 0, 0)), (("full", "full"), 0))
        self.assertEqual(self.cheap(MP, "wmm", "sc", (0, 0, 0)), (("stores", "loads"), 0))
        self.assertEqual(self.cheap(MP, "pso", "sc", (0, 0, 0)), (("stores", "none"), 0))
        self.assertEqual(self.cheap(MP, "pso", "sc", (9, 4, 4)), (("stores", "none"), 4))
        self.assertEqual(self.cheap(MP, "wmm", "sc", (1, 1, 0)), (("full", "full"), 0))
        # What costs nothing needs no certificate, though other plans without cost are not sufficient.
        self.expect(((("full", "full"), 0, ())), cheapest, SB, "wmm", "sc", (0, 0, 0))

    def test_great_costs(self):
        self.assertEqual(self.cheap(SB, "tso", "sc", (0, 0, 1000000)), (("full", "full"), 2000000))
        self.assertEqual(self.cheap(MP, "wmm", "sc", (1000000, 1000000, 999999)), (("full", "full"), 1999998))

    def test_none_that_is_sufficient(self):
        self.expect(None, cheapest, NONE, "tso", "sc", (1, 1, 1))
        unfenced = asked((ONE, ("store", 1, 0, 0), ("load", 2, 0, 1), SLOT), MIRRORED, observed=LOADS)
        for costs in ((0, 0, 0), (1, 2, 3)):
            self.expect(None, cheapest, unfenced, "pso", "sc", costs)

    def test_without_slots(self):
        self.expect(((), 0, ()), cheapest, NONE, "sc", "tso", (1, 1, 1))
        self.expect(((), 0, ()), cheapest, NONE, "tso", "tso", (0, 0, 0))

    def test_the_example(self):
        for order, result in (("tso", (("none", "none"), 0)), ("pso", (("stores", "none"), 1)),
                              ("wmm", (("stores", "loads"), 2))):
            self.assertEqual(self.cheap(MP, order, "sc", (1, 1, 3)), result)


class CertificateTest(Case):
    costs = (1, 1, 3)
    early = (((PLAIN,) * 5, ((1, False), PLAIN, PLAIN, PLAIN)), ((0, 3), (1, 0), (1, 2), (0, 1)))
    late = (((PLAIN,) * 5, ((1, False), PLAIN, PLAIN, PLAIN)), ((1, 2), (0, 1), (0, 3), (1, 0)))
    plain = (((PLAIN,) * 5, (PLAIN,) * 4), ((1, 0), (1, 2), (0, 1), (0, 3)))

    def certifies(self, wanted, certificate, order="pso", plan=("stores", "none"), costs=None, strong="sc"):
        self.expect(wanted, check_certificate, MP, order, strong, costs or self.costs, plan, certificate)

    def test_missing(self):
        self.certifies(True, (self.early,))
        self.certifies(False, ())
        _, _, certificate = cheapest(MP, "wmm", "sc", self.costs)
        self.assertGreater(len(certificate), 1)
        self.certifies(True, certificate, "wmm", ("stores", "loads"))
        for place in range(len(certificate)):
            rest = certificate[:place] + certificate[place + 1:]
            cheaper = [plan for plan in all_plans(MP) if plan_cost(plan, self.costs) < 2]
            wanted = all(any(refutes(MP, "wmm", "sc", plan, execution) for execution in rest) for plan in cheaper)
            self.certifies(wanted, rest, "wmm", ("stores", "loads"))
        self.certifies(False, (), "wmm", ("stores", "loads"))

    def test_double_and_in_another_order(self):
        self.certifies(True, (self.early, self.early))
        _, _, certificate = cheapest(MP, "wmm", "sc", self.costs)
        for changed in itertools.permutations(certificate + certificate[:1]):
            self.certifies(True, tuple(changed), "wmm", ("stores", "loads"))

    def test_not_valid(self):
        for execution in ((((PLAIN,) * 5,), ()), (((PLAIN,) * 5, (PLAIN,)), ()), (((), ()), ()),
                          (self.early[0], self.early[1][:3]), (self.early[0], self.plain[1]), self.late):
            self.certifies(False, (execution,))
            # They do no harm, either.
            self.certifies(True, (execution, self.early))
            self.certifies(True, (self.early, execution))

    def test_wanted_values(self):
        self.assertIsNone(check(MP[0], "pso", self.plain))
        self.certifies(False, (self.plain,))
        self.certifies(True, (self.plain, self.early))
        # Under "pso" the values of the execution are wanted, and nothing refutes a cheaper plan.
        self.certifies(False, (self.early,), strong="pso")
        self.certifies(True, (), plan=("none", "none"), strong="pso")

    def test_one_execution_refutes_several_plans(self):
        # The loads come in the wrong order: only a fence between them bars this.
        self.assertEqual([plan for plan in all_plans(MP) if refutes(MP, "wmm", "sc", plan, self.late)],
                         [plan for plan in all_plans(MP) if plan[1] in ("none", "stores")])
        self.assertEqual([plan for plan in all_plans(MP) if refutes(MP, "wmm", "sc", plan, self.early)],
                         [plan for plan in all_plans(MP) if plan[0] in ("none", "loads")])
        for certificate in ((self.late, self.early), (self.early, self.late)):
            self.certifies(True, certificate, "wmm", ("stores", "loads"))
        for certificate in ((self.late,), (self.early,)):
            self.certifies(False, certificate, "wmm", ("stores", "loads"))

    def test_plans_that_are_not_sufficient(self):
        for plan in (("none", "none"), ("loads", "none"), ("none", "full"), ("loads", "loads")):
            self.certifies(False, (self.early,), plan=plan)
            self.certifies(False, (), plan=plan, costs=(0, 0, 0))

    def test_plans_that_are_not_the_cheapest(self):
        # Something sufficient costs less, which nothing can refute.
        for plan in (("stores", "loads"), ("full", "none"), ("full", "full")):
            self.certifies(False, (self.early, self.late, self.plain), plan=plan)

    def test_another_plan_with_the_least_cost(self):
        for plan in (("stores", "none"), ("full", "none"), ("stores", "loads")):
            self.certifies(True, (self.early,), plan=plan, costs=(0, 1, 1))
        self.certifies(True, (), plan=("full", "full"), costs=(0, 0, 0))

    def test_executions_must_be_valid_under_the_order_itself(self):
        self.assertIsNone(check(MP[0], "wmm", self.late))
        self.assertIsNotNone(check(MP[0], "pso", self.late))
        self.certifies(False, (self.late,))
        self.certifies(True, (), "tso", ("none", "none"))

    def test_without_slots(self):
        self.expect(True, check_certificate, NONE, "sc", "sc", (1, 1, 1), (), ())
        self.expect(False, check_certificate, NONE, "tso", "sc", (1, 1, 1), (), ())


class NeedlessTest(Case):
    def fenced(self, left, right, order, **more):
        test = asked(*((ONE, ("store", 1, 0, address), ("fence", kind), ("load", 2, 0, 1 - address))
                         for address, kind in ((0, left), (1, right))), observed=LOADS)
        return self.call(needless, test, order, **more)

    def test_fences_of_store_buffering(self):
        for order in ("tso", "pso", "wmm"):
            self.assertEqual(self.fenced("full", "full", order), ())
            # If one of them does not help, the other one does not either.
            for kind in ("loads", "stores"):
                self.assertEqual(self.fenced("full", kind, order), (2, 7))
                self.assertEqual(self.fenced(kind, kind, order), (2, 7))
            self.assertEqual(self.fenced("full", "slot", order), (2,))
            self.assertEqual(self.fenced("slot", "slot", order), ())
        for left, right in itertools.product(KINDS[1:], repeat=2):
            self.assertEqual(self.fenced(left, right, "sc"), (2, 7))

    def test_fences_of_message_passing(self):
        for order, plan, wanted in (
            ("wmm", ("stores", "loads"), ()), ("wmm", ("full", "full"), ()), ("wmm", ("loads", "loads"), (2, 6)),
            ("pso", ("stores", "loads"), (6,)), ("pso", ("full", "stores"), (6,)), ("pso", ("loads", "none"), (2,)),
            ("tso", ("stores", "loads"), (2, 6)), ("tso", ("full", "full"), (2, 6)),
        ):
            self.expect(wanted, needless, planned(MP, plan), order)

    def test_each_fence_alone_is_replaced(self):
        # Either of two fences side by side can go, but not both.
        test = asked((ONE, ("store", 1, 0, 0), ("fence", "stores"), ("fence", "stores"), ("store", 1, 0, 1)),
                       (("load", 1, 0, 1), ("load", 2, 0, 0)), observed=MP[1])
        self.expect((2, 3), needless, test, "pso")
        self.assertNotEqual(observed(test, "pso"), observed(planned(MP, ("none", "none")), "pso"))

    def test_behind_the_code_that_is_reached(self):
        for kind in KINDS[1:]:
            program = ((("halt",), ("fence", kind), ("fence", kind)), (0,), (0,))
            for order in ORDERS:
                self.expect((1, 2), needless, (program, (("word", 0),), "never", ("equals", 0, 0)), order)

    def test_other_values_than_the_observed_ones_do_not_matter(self):
        test = planned(MP, ("stores", "loads"))
        for values in ((("register", 1, 1),), (("word", 0), ("word", 1))):
            self.expect((2, 6), needless, (test[0], values, "never", ("equals", 0, 0)), "wmm")

    def test_without_fences_or_outcomes(self):
        self.expect((), needless, NONE, "wmm")
        self.expect((), needless, SB, "wmm")
        endless = planned(ENDLESS, ("full",))
        self.expect((1,), needless, endless, "wmm")

    def test_random_plans(self):
        draw = random.Random(95)
        for test in (SB, MP, THREE):
            for order in ORDERS:
                plan = draw.choice(all_plans(test))
                fenced = planned(test, plan)
                before = observed(fenced, order)
                wanted = []
                for place, kind in enumerate(plan):
                    less = plan[:place] + ("none",) + plan[place + 1:]
                    if kind != "none" and observed(planned(test, less), order) == before:
                        wanted.append(slots_of(test[0])[place])
                self.expect(tuple(wanted), needless, fenced, order)

    def test_limit(self):
        for plan in (("full", "full"), ("stores", "loads"), ("none", "none")):
            test = planned(MP, plan)
            for order in ORDERS:
                many = [len(explore(test[0], order))]
                for place in range(len(plan)):
                    less = planned(MP, plan[:place] + ("none",) + plan[place + 1:])
                    many.append(len(explore(less[0], order)))
                self.call(needless, test, order, limit=max(many))
                self.refuse(TooManySituations, {"limit": max(many) - 1}, needless, test, order, limit=max(many) - 1)
        self.refuse(TooManySituations, {"limit": 1}, needless, NONE, "sc", limit=1)


class BarringTest(Case):
    def test_each_kind_in_each_slot(self):
        code = together((ONE, ("store", 1, 0, 0), SLOT, ("store", 1, 0, 1), SLOT, ("load", 2, 0, 2), SLOT,
                         ("load", 3, 0, 3), SLOT, ("store", 1, 0, 2)), memory=(0,) * 4)
        plain = ((PLAIN,) * 11,)
        first, second, third, fourth, fifth = (0, 1), (0, 3), (0, 5), (0, 7), (0, 9)
        full = tuple((slot, "full") for slot in (2, 4, 6, 8))
        for events, bars in (
            ((first, second, third, fourth, fifth), ()),
            ((second, first, third, fourth, fifth), ((2, "stores"), (2, "full"))),
            ((first, third, second, fourth, fifth), ((4, "full"),)),
            ((first, second, fourth, third, fifth), ((6, "loads"), (6, "full"))),
            ((third, first, second, fourth, fifth), ((2, "full"), (4, "full"))),
            ((first, third, fourth, fifth, second), ((4, "stores"), (4, "full"), (6, "stores"), (6, "full"),
                                                     (8, "stores"), (8, "full"))),
            ((fourth, third, fifth, second, first),
             ((2, "stores"), full[0], (4, "stores"), full[1], (6, "loads"), (6, "stores"), full[2], (8, "stores"),
              full[3])),
        ):
            self.expect(bars, barring, code, "wmm", (plain, events))

    def test_fences_under_stronger_orders(self):
        late = (((PLAIN,) * 5, (PLAIN,) * 5), ((0, 3), (1, 3), (0, 1), (1, 1)))
        for order in ("tso", "pso", "wmm"):
            self.expect(((2, "full"), (7, "full")), barring, SB[0], order, late)
        early = CertificateTest.early
        self.expect(((2, "stores"), (2, "full")), barring, MP[0], "pso", early)
        self.expect(((2, "stores"), (2, "full")), barring, MP[0], "wmm", early)
        self.expect(((6, "loads"), (6, "full")), barring, MP[0], "wmm", CertificateTest.late)
        for order in ORDERS:
            self.expect((), barring, MP[0], order, CertificateTest.plain)

    def test_fences_that_make_a_load_read_another_word(self):
        # The fence changes no event, but the order that must hold.
        program = together((ONE, ("store", 1, 0, 0), SLOT, ("load", 2, 0, 0)), memory=(0,))
        execution = (((PLAIN, PLAIN, PLAIN, (1, False), PLAIN),), ((0, 3), (0, 1)))
        self.expect(((2, "full"),), barring, program, "tso", execution)

    def test_more_than_three_slots_and_none(self):
        program = together((ONE, ("store", 1, 0, 0), *(SLOT,) * 5, ("load", 2, 0, 1), SLOT), memory=(0, 0))
        execution = (((PLAIN,) * 10,), ((0, 7), (0, 1)))
        self.expect(tuple((slot, "full") for slot in range(2, 7)), barring, program, "tso", execution)
        late = (((PLAIN,) * 4, (PLAIN,) * 4), ((0, 2), (1, 2), (0, 1), (1, 1)))
        self.expect((), barring, STORE_BUFFERING, "tso", late)

    def test_slots_in_code_that_several_cores_share(self):
        code = (ONE, ("store", 1, 0, 0), SLOT, ("load", 2, 0, 1), ("halt",))
        execution = (((PLAIN,) * 5, (PLAIN,) * 5), ((0, 1), (0, 3), (1, 3), (1, 1)))
        self.expect(((2, "full"),), barring, (code, (0, 0), (0, 0)), "tso", execution)

    def test_random_executions(self):
        draw = random.Random(97)
        barred = 0
        for test in (SB, MP, THREE):
            slots = slots_of(test[0])
            for order in ORDERS:
                for _ in range(10):
                    execution = drawn_execution(draw, test[0], order)
                    wanted = ()
                    for place, slot in enumerate(slots):
                        for kind in KINDS[1:]:
                            plan = ["none"] * len(slots)
                            plan[place] = kind
                            if check(with_plan(test[0], plan), order, execution) is not None:
                                wanted += ((slot, kind),)
                    self.expect(wanted, barring, test[0], order, execution)
                    barred += len(wanted)
        self.assertGreater(barred, 20)

    def test_executions_that_are_not_valid(self):
        plain = (PLAIN,) * 4
        events = ((0, 1), (0, 2), (1, 1), (1, 2))
        for order, execution, violation in (
            ("sc", ((plain,), ()), ("cores",)), ("tso", ((plain, ((1, False),)), events), ("run", 1, 0)),
            ("pso", ((plain, plain[:3]), events), ("unfinished", 1)),
            ("wmm", ((plain, plain), events[:3]), ("events",)),
            ("sc", ((plain, plain), ((0, 2), (1, 2), (0, 1), (1, 1))), ("order", (0, 1), (0, 2))),
            ("sc", ((plain, plain), events), ("value", (1, 2))),
        ):
            self.refuse(InvalidExecution, {"violation": violation}, barring, STORE_BUFFERING, order, execution)
        program = together((("load linked", 2, 0), SLOT, ("store conditional", 3, 0, 0)), (("swap", 1, 0, 0),),
                           memory=(0,))
        execution = (((PLAIN, PLAIN, (0, True), PLAIN), (PLAIN, PLAIN)), ((0, 0), (1, 0), (0, 2)))
        self.refuse(InvalidExecution, {"violation": ("atomicity", (0, 2))}, barring, program, "tso", execution)
