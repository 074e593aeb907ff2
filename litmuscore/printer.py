"""Writing the canonical texts of tests."""

from litmuscore.forms import MOST_TOKENS, PARTS, REGISTERS, written_name
from litmuscore.tokens import tokens_of

# Where a condition is written, from the loosest place to the tightest one.
AS_CONDITION = 0
AS_CONJUNCTION = 1
AS_FACTOR = 2


def show_line(name, parts):
    """A line of a name and what follows it, each with a space before it."""
    return " ".join([name, *[str(part) for part in parts]])


def show_part(part, value):
    """One element of an instruction behind its name."""
    return REGISTERS[value] if part == "register" else str(value)


def show_instruction(instruction):
    """The line of an instruction."""
    name = written_name(instruction[0])
    return show_line(name, [show_part(part, value) for part, value in zip(PARTS[name], instruction[1:])])


def show_observable(observable):
    """An observable."""
    if observable[0] == "word":
        return f"[{observable[1]}]"
    return f"{observable[1]}:{REGISTERS[observable[2]]}"


def show_condition(condition, observed, place):
    """The condition as it is written at the place; observed has the observables as they are written."""
    name = condition[0]
    if name == "equals":
        return f"{observed[condition[1]]} = {condition[2]}"
    if name == "not":
        return f"not {show_condition(condition[1], observed, AS_FACTOR)}"
    # What is written as a condition or as a conjunction goes on to the left with the same.
    own = AS_CONJUNCTION if name == "and" else AS_CONDITION
    left = show_condition(condition[1], observed, own)
    right = show_condition(condition[2], observed, own + 1)
    shown = f"{left} {name} {right}"
    return f"({shown})" if place > own else shown


def show_test(test):
    """The canonical text of the test, or None if it has none."""
    (code, entries, memory), observables, claim, condition = test
    observed = [show_observable(observable) for observable in observables]
    claimed = f"{claim} {show_condition(condition, observed, AS_CONDITION)}"
    if len(tokens_of(claimed)) > MOST_TOKENS:
        return None
    lines = [
        show_line("memory", memory),
        show_line("start", entries),
        *[show_instruction(instruction) for instruction in code],
        show_line("observe", observed),
        claimed,
    ]
    return "".join([line + "\n" for line in lines])
