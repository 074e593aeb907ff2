"""Reading the texts of tests."""

from litmuscore.errors import TextError
from litmuscore.forms import CLAIMS, FENCES, PARTS, REGISTERS, RELATIONS, name_from
from litmuscore.forms import GREATEST_TARGET, GREATEST_WORD
from litmuscore.forms import MOST_CORES, MOST_INSTRUCTIONS, MOST_OBSERVABLES, MOST_TOKENS, MOST_WORDS
from litmuscore.tokens import tokens_in


def is_number(digits, greatest):
    """True if the digits are written without a leading zero and tell a number up to the greatest one."""
    if digits[0] == "0" and digits != "0":
        return False
    # Numbers with many digits are not even made.
    return len(digits) <= len(str(greatest)) and int(digits) <= greatest


class Line:
    """A line, whose tokens are taken from left to right; what cannot follow is an error."""

    def __init__(self, characters, number):
        self.tokens = tokens_in(characters, number)
        self.number = number
        self.end = len(characters) + 1
        self.taken = 0

    def coming(self):
        """The kind, the text and the column of the next token, or of the end of the line."""
        if self.taken == len(self.tokens):
            return ("end", "", self.end)
        token = self.tokens[self.taken]
        if self.taken == MOST_TOKENS:
            raise TextError(self.number, token[2])
        return token

    def is_coming(self, text):
        """True if the next token has this text."""
        return self.coming()[1] == text

    def has_more(self):
        """True if the line has a next token."""
        return self.coming()[0] != "end"

    def take_one(self, texts):
        """Take the next token, which must have one of these texts, and tell which one."""
        _, found, column = self.coming()
        if found not in texts:
            raise TextError(self.number, column)
        self.taken += 1
        return found

    def take(self, text):
        """Take the next token, which must have this text."""
        self.take_one((text,))

    def take_number(self, greatest):
        """Take the next token, which must be a number up to the greatest one, and tell it."""
        kind, found, column = self.coming()
        if kind != "number" or not is_number(found, greatest):
            raise TextError(self.number, column)
        self.taken += 1
        return int(found)

    def finish(self):
        """Require that no token is left."""
        kind, _, column = self.coming()
        if kind != "end":
            raise TextError(self.number, column)


class Lines:
    """The lines of a text, which are read one after another."""

    def __init__(self, text):
        self.lines = text.split("\n")
        self.gone = 0

    def following(self):
        """The next line with tokens, or None if there is none."""
        while self.gone < len(self.lines):
            self.gone += 1
            line = Line(self.lines[self.gone - 1], self.gone)
            if line.has_more():
                return line
        return None

    def required(self):
        """The next line with tokens, which must exist."""
        line = self.following()
        if line is None:
            raise TextError(len(self.lines) + 1, 1)
        return line


def read_numbers(line, name, most, greatest):
    """The tuple of the numbers of a memory line or a start line."""
    line.take(name)
    numbers = [line.take_number(greatest)]
    while line.has_more() and len(numbers) < most:
        numbers.append(line.take_number(greatest))
    line.finish()
    return tuple(numbers)


def read_part(line, part):
    """One element of an instruction behind its name."""
    if part == "register":
        return REGISTERS.index(line.take_one(REGISTERS))
    if part == "word":
        return line.take_number(GREATEST_WORD)
    if part == "target":
        return line.take_number(GREATEST_TARGET)
    return line.take_one(FENCES if part == "fence" else RELATIONS)


def read_instruction(line):
    """The instruction of an instruction line."""
    written = line.take_one(list(PARTS))
    parts = [read_part(line, part) for part in PARTS[written]]
    line.finish()
    return (name_from(written), *parts)


def read_code(lines):
    """The instructions of all instruction lines, and the line behind them."""
    code = []
    line = lines.required()
    while len(code) < MOST_INSTRUCTIONS and not line.is_coming("observe"):
        code.append(read_instruction(line))
        line = lines.required()
    return (tuple(code), line)


def read_observable(line, program):
    """An observable of the program, and the column of its first token."""
    _, entries, memory = program
    column = line.coming()[2]
    if line.is_coming("["):
        line.take("[")
        address = line.take_number(len(memory) - 1)
        line.take("]")
        return (("word", address), column)
    core = line.take_number(len(entries) - 1)
    line.take(":")
    return (("register", core, REGISTERS.index(line.take_one(REGISTERS))), column)


def read_observed(line, program):
    """The observables of an observe line."""
    line.take("observe")
    observed = []
    while len(observed) == 0 or (line.has_more() and len(observed) < MOST_OBSERVABLES):
        observable, column = read_observable(line, program)
        if observable in observed:
            raise TextError(line.number, column)
        observed.append(observable)
    line.finish()
    return tuple(observed)


def read_equals(line, program, observed):
    """A condition that an observable has a word."""
    observable, column = read_observable(line, program)
    if observable not in observed:
        raise TextError(line.number, column)
    line.take("=")
    return ("equals", observed.index(observable), line.take_number(GREATEST_WORD))


def read_factor(line, program, observed):
    """A factor of a condition."""
    if line.is_coming("not"):
        line.take("not")
        return ("not", read_factor(line, program, observed))
    if line.is_coming("("):
        line.take("(")
        condition = read_condition(line, program, observed)
        line.take(")")
        return condition
    return read_equals(line, program, observed)


def read_conjunction(line, program, observed):
    """A conjunction of a condition."""
    condition = read_factor(line, program, observed)
    while line.is_coming("and"):
        line.take("and")
        condition = ("and", condition, read_factor(line, program, observed))
    return condition


def read_condition(line, program, observed):
    """A condition."""
    condition = read_conjunction(line, program, observed)
    while line.is_coming("or"):
        line.take("or")
        condition = ("or", condition, read_conjunction(line, program, observed))
    return condition


def read_claim(line, program, observed):
    """The claim and the condition of a claim line."""
    claim = line.take_one(CLAIMS)
    condition = read_condition(line, program, observed)
    line.finish()
    return (claim, condition)


def read_test(text):
    """The test that the text denotes."""
    lines = Lines(text)
    memory = read_numbers(lines.required(), "memory", MOST_WORDS, GREATEST_WORD)
    entries = read_numbers(lines.required(), "start", MOST_CORES, GREATEST_TARGET)
    code, line = read_code(lines)
    program = (code, entries, memory)
    observed = read_observed(line, program)
    claim, condition = read_claim(lines.required(), program, observed)
    extra = lines.following()
    if extra is not None:
        extra.finish()
    return (program, observed, claim, condition)
