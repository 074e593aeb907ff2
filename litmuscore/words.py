"""Words of 16 bits, the operations on them and the relations between them."""

OPERATIONS = ("add", "sub", "mul", "and", "or", "xor", "slt", "sltu")


def signed(word):
    """The word, read as signed."""
    if word < 32768:
        return word
    return word - 65536


def operate(operation, left, right):
    """The word that the operation gives for the words left and right."""
    if operation == "slt":
        return 1 if signed(left) < signed(right) else 0
    if operation == "sltu":
        return 1 if left < right else 0
    if operation == "and":
        return left & right
    if operation == "or":
        return left | right
    if operation == "xor":
        return left ^ right
    if operation == "add":
        return (left + right) % 65536
    if operation == "sub":
        return (left - right) % 65536
    return (left * right) % 65536


def compare(relation, left, right):
    """True if the relation holds between the words left and right, otherwise False."""
    if relation == "eq":
        return left == right
    if relation == "ne":
        return left != right
    if relation == "lt":
        return signed(left) < signed(right)
    if relation == "ge":
        return signed(left) >= signed(right)
    if relation == "ltu":
        return left < right
    return left >= right
