"""Tests: programs with a claim about the final registers and words."""

from litmuscore.outcomes import outcomes_of


def holds(condition, values):
    """True if the condition holds for the observed values, otherwise False."""
    name = condition[0]
    if name == "equals":
        return values[condition[1]] == condition[2]
    if name == "not":
        return not holds(condition[1], values)
    if name == "and":
        return holds(condition[1], values) and holds(condition[2], values)
    return holds(condition[1], values) or holds(condition[2], values)


def observed_value(observable, result):
    """The final word of an observable in an outcome."""
    states, memory = result
    if observable[0] == "word":
        return memory[observable[1]]
    _, core, number = observable
    return states[core][1][number]


def observed_values(test, result):
    """The observed values of an outcome of the program of the test."""
    return tuple([observed_value(observable, result) for observable in test[1]])


def observed_executions(test, order, limit):
    """The pairs of the observed values and an execution, one for each outcome of the program, in their order."""
    found = outcomes_of(test[0], order, limit=limit)
    return [(observed_values(test, result), execution) for result, execution in found]


def observed_outcomes(test, order, limit):
    """The observed outcomes of the test, each once, in ascending order."""
    return tuple(sorted(set([values for values, _ in observed_executions(test, order, limit)])))


def decide(test, order, *, limit=2000):
    """Whether the test holds under the order, and its observed outcomes."""
    _, _, claim, condition = test
    observed = observed_outcomes(test, order, limit)
    found = [holds(condition, values) for values in observed]
    if claim == "exists":
        return (any(found), observed)
    if claim == "never":
        return (not any(found), observed)
    return (all(found), observed)
