"""Expressions put in form: the plan of a tree, and its text at a width."""

from printwell.best import printed
from printwell.plans import group, joined

# Trees that are not here need no brackets.
TIGHTNESS = {"+": 1, "-": 1, "*": 2}


def plan_of(tree):
    kind = tree[0]
    if kind == "name":
        return ("text", tree[1])
    if kind == "number":
        return ("text", figures_of(tree[1]))
    if kind == "call":
        return plan_of_parts(tree[1] + "(", tree[2], ")")
    if kind == "row":
        return plan_of_parts("[", tree[1], "]")
    return plan_of_operands(tree)


def figures_of(number):
    # In blocks, as str does not take numbers of any length.
    block = 10 ** 64
    blocks = []
    while number >= block:
        blocks.append(str(number % block).zfill(64))
        number = number // block
    blocks.append(str(number))
    return "".join(reversed(blocks))


def plan_of_parts(opening, parts, closing):
    if not parts:
        return ("text", opening + closing)
    inside = [("cut",), plan_of(parts[0])]
    for part in parts[1:]:
        inside.extend([("text", ","), ("line",), plan_of(part)])
    return group(joined([("text", opening), ("nest", 2, joined(inside)), ("cut",), ("text", closing)]))


def plan_of_operands(tree):
    tightness = TIGHTNESS[tree[0]]
    links = []
    first = tree
    while TIGHTNESS.get(first[0]) == tightness:
        links.append(first)
        first = first[1]
    further = []
    for link in reversed(links):
        further.extend([("line",), ("text", link[0] + " "), plan_of_operand(link[2], tightness)])
    return group(joined([plan_of_operand(first, tightness), ("nest", 2, joined(further))]))


def plan_of_operand(tree, tightness):
    plan = plan_of(tree)
    if TIGHTNESS.get(tree[0], tightness + 1) > tightness:
        return plan
    return joined([("text", "("), ("align", plan), ("text", ")")])


def formatted(tree, width):
    return printed(plan_of(tree), width)
