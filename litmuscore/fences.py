"""Fences: plans for the slots of a program, the cheapest one of them, and its certificate."""

from litmuscore.errors import TooManySlots
from litmuscore.executions import check, outcome, require_valid
from litmuscore.litmus import observed_executions, observed_outcomes, observed_values
from litmuscore.tuples import with_item

KINDS = ("none", "loads", "stores", "full")
SLOT = ("fence", "slot")
MOST_SLOTS = 3


def slots_of(program):
    """The tuple of the slots of the program, in ascending order."""
    return tuple([pc for pc, instruction in enumerate(program[0]) if instruction == SLOT])


def fences_of(program):
    """The tuple of the fences of the program, in ascending order."""
    return tuple([pc for pc, instruction in enumerate(program[0]) if instruction[0] == "fence" and instruction != SLOT])


def with_instruction(program, pc, instruction):
    """The program with another instruction at the code address."""
    code, entries, memory = program
    return (with_item(code, pc, instruction), entries, memory)


def with_plan(program, plan):
    """The program with the plan."""
    planned = program
    for slot, kind in zip(slots_of(program), plan):
        if kind != "none":
            planned = with_instruction(planned, slot, ("fence", kind))
    return planned


def plan_cost(plan, costs):
    """The cost of the plan."""
    prices = (0,) + costs
    return sum([prices[KINDS.index(kind)] for kind in plan])


def plans(many):
    """All plans for this number of slots, in the order of plans."""
    found = [()]
    for _ in range(many):
        found = [plan + (kind,) for plan in found for kind in KINDS]
    yield from found


def require_few_slots(program):
    """Raise TooManySlots if the program has too many slots."""
    many = len(slots_of(program))
    if many > MOST_SLOTS:
        raise TooManySlots(many)


def refuting(test, order, good, plan, limit):
    """An execution that refutes the plan, or None if the plan is sufficient; good has the wanted outcomes."""
    program, observed, claim, condition = test
    planned = (with_plan(program, plan), observed, claim, condition)
    for values, execution in observed_executions(planned, order, limit):
        if values not in good:
            return execution
    return None


def is_sufficient(test, order, wanted, plan, *, limit=2000):
    """True if the plan is sufficient under the order, otherwise False."""
    require_few_slots(test[0])
    good = observed_outcomes(test, wanted, limit)
    return refuting(test, order, good, plan, limit) is None


def is_refuted(test, order, good, plan, execution):
    """True if the execution refutes the plan; good has the wanted outcomes."""
    program = with_plan(test[0], plan)
    if check(program, order, execution) is not None:
        return False
    return observed_values(test, outcome(program, order, execution)) not in good


def is_refuted_by_some(test, order, good, plan, executions):
    """True if at least one of the executions refutes the plan."""
    for execution in executions:
        if is_refuted(test, order, good, plan, execution):
            return True
    return False


def plans_by_cost(program, costs):
    """The list of all plans for the program, each with its cost: the cheapest first, then in the order of plans."""
    many = len(slots_of(program))
    priced = [(plan_cost(plan, costs), plan) for plan in plans(many)]
    return sorted(priced, key=lambda pair: pair[0])


def cheapest(test, order, wanted, costs, *, limit=2000):
    """The cheapest plan, its cost and its certificate, or None if no plan is sufficient."""
    require_few_slots(test[0])
    good = observed_outcomes(test, wanted, limit)
    executions, prices = [], []
    for cost, plan in plans_by_cost(test[0], costs):
        if is_refuted_by_some(test, order, good, plan, executions):
            continue
        execution = refuting(test, order, good, plan, limit)
        if execution is None:
            # The plans of the same cost need not be refuted: what was found for them is left out.
            cheaper = len([price for price in prices if price < cost])
            return (plan, cost, tuple(executions[:cheaper]))
        executions.append(execution)
        prices.append(cost)
    return None


def check_certificate(test, order, wanted, costs, plan, certificate, *, limit=2000):
    """True if the executions certify the plan under the order, otherwise False."""
    require_few_slots(test[0])
    good = observed_outcomes(test, wanted, limit)
    if refuting(test, order, good, plan, limit) is not None:
        return False
    cost = plan_cost(plan, costs)
    for price, other in plans_by_cost(test[0], costs):
        if price < cost and not is_refuted_by_some(test, order, good, other, certificate):
            return False
    return True


def barring(program, order, execution):
    """The pairs of a slot and a kind such that a fence of this kind in this slot bars the execution, in order."""
    require_valid(program, order, execution)
    return tuple([
        (slot, kind)
        for slot in slots_of(program)
        for kind in KINDS[1:]
        if check(with_instruction(program, slot, ("fence", kind)), order, execution) is not None
    ])


def needless(test, order, *, limit=2000):
    """The tuple of the needless fences of the program, in ascending order."""
    program, observed, claim, condition = test
    before = observed_outcomes(test, order, limit)
    found = []
    for fence in fences_of(program):
        changed = (with_instruction(program, fence, SLOT), observed, claim, condition)
        if observed_outcomes(changed, order, limit) == before:
            found.append(fence)
    return tuple(found)
