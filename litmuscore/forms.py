"""The form of texts: the instructions as they are written, and the bounds."""

REGISTERS = ("r0", "r1", "r2", "r3", "r4", "r5", "r6", "r7")
RELATIONS = ("eq", "ne", "lt", "ge", "ltu", "geu")
FENCES = ("loads", "stores", "full", "slot")
CLAIMS = ("exists", "never", "always")
# What follows the written name of each instruction.
PARTS = {
    "add": ("register", "register", "register"),
    "sub": ("register", "register", "register"),
    "mul": ("register", "register", "register"),
    "and": ("register", "register", "register"),
    "or": ("register", "register", "register"),
    "xor": ("register", "register", "register"),
    "slt": ("register", "register", "register"),
    "sltu": ("register", "register", "register"),
    "addi": ("register", "register", "word"),
    "load": ("register", "register", "word"),
    "store": ("register", "register", "word"),
    "swap": ("register", "register", "register"),
    "fetch-add": ("register", "register", "register"),
    "load-linked": ("register", "register"),
    "store-conditional": ("register", "register", "register"),
    "fence": ("fence",),
    "branch": ("relation", "register", "register", "target"),
    "jump": ("target",),
    "halt": (),
}
MOST_TOKENS = 60
MOST_WORDS = 16
MOST_CORES = 4
MOST_INSTRUCTIONS = 24
MOST_OBSERVABLES = 12
GREATEST_WORD = 65535
GREATEST_TARGET = 24


def written_name(name):
    """The name of an instruction as it is written in a text."""
    return name.replace(" ", "-")


def name_from(written):
    """The name of an instruction that is written so in a text."""
    return written.replace("-", " ")
