"""Values: numbers, None and names of lives."""

LIMIT = 999999999


def is_number(value):
    """Whether a value is an integer."""
    return isinstance(value, int) and not isinstance(value, bool)


def is_true(value):
    """Whether a value is a life or a number other than 0."""
    return value is not None and value != 0


def value_text(value):
    """The text of a value."""
    if value is None:
        return "none"
    return str(value)


def truth(holds):
    """1 for a comparison that holds, otherwise 0."""
    return 1 if holds else 0


def combine(sign, left, right):
    """(value, None) or (None, fault) for an operator of two sides other than `and` and `or`."""
    if sign == "==":
        return truth(left == right), None
    if sign == "!=":
        return truth(left != right), None
    if not is_number(left) or not is_number(right):
        return None, "kind"
    if sign in ("<", "<=", ">", ">="):
        return truth(in_order(sign, left, right)), None
    if sign in ("/", "mod") and right == 0:
        return None, "zero"
    value = computed(sign, left, right)
    if value < -LIMIT or value > LIMIT:
        return None, "big"
    return value, None


def in_order(sign, left, right):
    """Whether a comparison of two numbers holds."""
    if sign == "<":
        return left < right
    if sign == "<=":
        return left <= right
    if sign == ">":
        return left > right
    return left >= right


def computed(sign, left, right):
    """The sum, difference, product, quotient or rest of two numbers, without a bound."""
    if sign == "+":
        return left + right
    if sign == "-":
        return left - right
    if sign == "*":
        return left * right
    if sign == "/":
        return left // right
    return left - right * (left // right)


def later_moment(time, stage, value):
    """(moment, None) or (None, fault) for the later moment by a value."""
    if not is_number(value):
        return None, "kind"
    if value < 0:
        return None, "early"
    if value == 0:
        return (time, stage + 1), None
    if time + value > LIMIT:
        return None, "big"
    return (time + value, 0), None
