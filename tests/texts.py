"""Tests and their texts, drawn at random, and where texts go wrong, found in another way than the reader does."""

import ast
import re

OPERATIONS = ("add", "sub", "mul", "and", "or", "xor", "slt", "sltu")
RELATIONS = ("eq", "ne", "lt", "ge", "ltu", "geu")
FENCES = ("loads", "stores", "full", "slot")
# What an instruction line consists of: a register, a word, a target, a kind of fence or a relation.
LINES = {
    **{name: "R R R" for name in OPERATIONS + ("swap", "fetch-add", "store-conditional")},
    "addi": "R R W", "load": "R R W", "store": "R R W", "load-linked": "R R", "fence": "F", "branch": "C R R T",
    "jump": "T", "halt": "",
}


def drawn_instruction(draw):
    name = draw.choice(sorted(LINES))
    parts = {"R": lambda: draw.randrange(8), "W": lambda: draw.choice((0, 1, 9, 65535, draw.randrange(65536))),
             "T": lambda: draw.randrange(25), "F": lambda: draw.choice(FENCES), "C": lambda: draw.choice(RELATIONS)}
    return (name.replace("-", " "), *[parts[part]() for part in LINES[name].split()])


def drawn_condition(draw, many, depth):
    if depth == 1 or draw.random() < 0.25:
        return ("equals", draw.randrange(many), draw.choice((0, 1, 10, 65535)))
    if draw.random() < 0.3:
        return ("not", drawn_condition(draw, many, depth - 1))
    return (draw.choice(("and", "or")), drawn_condition(draw, many, depth - 1), drawn_condition(draw, many, depth - 1))


def drawn_test(draw):
    """A test whose claim line is not too long, whether or not its program makes sense."""
    code = tuple(drawn_instruction(draw) for _ in range(draw.choice((0, 1, 3, 24))))
    entries = tuple(draw.randrange(25) for _ in range(draw.randrange(1, 5)))
    memory = tuple(draw.randrange(65536) for _ in range(draw.choice((1, 2, 16))))
    observables = [("register", core, number) for core in range(len(entries)) for number in range(8)]
    observables += [("word", address) for address in range(len(memory))]
    observed = tuple(draw.sample(observables, min(len(observables), draw.choice((1, 2, 12)))))
    condition = drawn_condition(draw, len(observed), draw.randrange(1, 5))
    return ((code, entries, memory), observed, draw.choice(("exists", "never", "always")), condition)


def with_parentheses(condition):
    """The tokens of a condition that has parentheses wherever they may stand; $k is the observable with the index k."""
    if condition[0] == "equals":
        return ["(", f"${condition[1]}", "=", str(condition[2]), ")"]
    if condition[0] == "not":
        return ["(", "not", *with_parentheses(condition[1]), ")"]
    return ["(", *with_parentheses(condition[1]), condition[0], *with_parentheses(condition[2]), ")"]


TOKEN = re.compile(r"(?P<name>[a-z][a-z0-9-]*)|(?P<number>[0-9]+)|(?P<sign>[:\[\]=()])|(?P<space> +)")


def divided(line):
    """The tokens of a line, each with its column, and the column of the first character of no token, or None."""
    tokens, place = [], 0
    while place < len(line) and line[place] != ";":
        found = TOKEN.match(line, place)
        if not found:
            return tokens, place + 1
        if found.lastgroup != "space":
            tokens.append((found.group(), place + 1))
        place = found.end()
    return tokens, None


class Wrong(Exception):
    """What stands at a place cannot follow."""


class Finder:
    """Finds the place of the error in a text by asking of each token what it may be."""

    def __init__(self, text):
        self.lines = text.split("\n")
        self.text_of_condition = ""

    def place(self):
        """The line and the column of the error, or None."""
        stages = [self.memory, self.start, self.code, self.claim, self.nothing]
        self.instructions = 0
        for number, line in enumerate(self.lines, 1):
            tokens, column = divided(line)
            if column is not None:
                return number, column
            if not tokens:
                continue
            try:
                if stages[0](tokens + [("", len(line) + 1)]):
                    stages.pop(0)
            except Wrong as wrong:
                return number, wrong.args[0]
        return None if stages == [self.nothing] else (len(self.lines) + 1, 1)

    def ask(self, token, may):
        if not may:
            raise Wrong(token[1])

    def numbers(self, tokens, name, most, greatest):
        self.ask(tokens[0], tokens[0][0] == name)
        for place, token in enumerate(tokens[1:]):
            last = token[0] == ""
            self.ask(token, place > 0 if last else place < most and self.is_number(token[0], greatest))
        return True

    def is_number(self, text, greatest):
        return re.fullmatch("0|[1-9][0-9]*", text) is not None and int(text[:9]) <= greatest

    def memory(self, tokens):
        self.words = len(tokens) - 2
        return self.numbers(tokens, "memory", 16, 65535)

    def start(self, tokens):
        self.cores = len(tokens) - 2
        return self.numbers(tokens, "start", 4, 24)

    def code(self, tokens):
        name = tokens[0][0]
        if name == "observe":
            return self.observe(tokens)
        self.ask(tokens[0], name in LINES and self.instructions < 24)
        self.instructions += 1
        parts = LINES[name].split() + [""]
        for token, part in zip(tokens[1:], parts):
            text = token[0]
            self.ask(token, {
                "R": re.fullmatch("r[0-7]", text) is not None, "W": self.is_number(text, 65535),
                "T": self.is_number(text, 24), "F": text in FENCES, "C": text in RELATIONS, "": text == ""}[part])
        return False

    def observable(self, tokens, known):
        """How many tokens the observable has, and the observable; known tells if it may stand here."""
        (first, _), (second, _), (third, _) = (tokens + [("", tokens[-1][1])] * 2)[:3]
        if first == "[":
            self.ask(tokens[1], self.is_number(second, self.words - 1))
            self.ask(tokens[2], third == "]")
        else:
            self.ask(tokens[0], self.is_number(first, self.cores - 1))
            self.ask(tokens[1], second == ":")
            self.ask(tokens[2], re.fullmatch("r[0-7]", third) is not None)
        self.ask(tokens[0], known(first + second + third))
        return first + second + third

    def observe(self, tokens):
        self.observed = []
        place = 1
        while True:
            if tokens[place][0] == "":
                self.ask(tokens[place], self.observed)
                return True
            self.ask(tokens[place], len(self.observed) < 12)
            self.observed.append(self.observable(tokens[place:], lambda text: text not in self.observed))
            place += 3

    def claim(self, tokens):
        if len(tokens) > 61:
            # The 61st token is an error if nothing before it is.
            tokens = tokens[:60] + [("too many", tokens[60][1])]
        self.ask(tokens[0], tokens[0][0] in ("exists", "never", "always"))
        self.text_of_condition, opened, operand, place = "", 0, True, 1
        while True:
            text = tokens[place][0]
            if operand and text in ("not", "("):
                opened += text == "("
                self.text_of_condition += f" {text}"
                place += 1
            elif operand:
                observable = self.observable(tokens[place:], lambda told: told in self.observed)
                self.ask(tokens[place + 3], tokens[place + 3][0] == "=")
                self.ask(tokens[place + 4], self.is_number(tokens[place + 4][0], 65535))
                self.text_of_condition += f" ({self.observed.index(observable)}, {tokens[place + 4][0]})"
                place += 5
                operand = False
            elif text == "" and opened == 0:
                return True
            else:
                self.ask(tokens[place], text in ("and", "or") or (text == ")" and opened > 0))
                opened -= text == ")"
                operand = text != ")"
                self.text_of_condition += f" {text}"
                place += 1

    def nothing(self, tokens):
        raise Wrong(tokens[0][1])

    def condition(self):
        """The condition of the claim line, as Python reads it."""
        return condition_of(ast.parse(self.text_of_condition.strip(), mode="eval").body)


def condition_of(node):
    if isinstance(node, ast.Tuple):
        return ("equals", *[part.value for part in node.elts])
    if isinstance(node, ast.UnaryOp):
        return ("not", condition_of(node.operand))
    name = "and" if isinstance(node.op, ast.And) else "or"
    condition = condition_of(node.values[0])
    for value in node.values[1:]:
        condition = (name, condition, condition_of(value))
    return condition
