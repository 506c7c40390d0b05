"""What several tests need: short ways to write plans, and a second, plain way to lay them out."""

import random

LINE = ("line",)
CUT = ("cut",)


def text(signs):
    return ("text", signs)


def beside(*plans):
    whole = plans[-1]
    for plan in reversed(plans[:-1]):
        whole = ("beside", plan, whole)
    return whole


def all_sides(plan):
    """Every list of sides that fits the plan, in the order of the lists."""
    kind = plan[0]
    if kind in ("text", "line", "cut"):
        return [[]]
    if kind == "beside":
        return [a + b for a in all_sides(plan[1]) for b in all_sides(plan[2])]
    if kind == "choice":
        return [[0] + s for s in all_sides(plan[1])] + [[1] + s for s in all_sides(plan[2])]
    return all_sides(plan[-1])


def rows_of(plan, sides, column, margin, flat):
    """The plan's rows, the first one without what stands ahead of it; takes its sides from the list."""
    kind = plan[0]
    if kind == "text":
        return [plan[1]]
    if kind in ("line", "cut"):
        if flat:
            return [" " if kind == "line" else ""]
        return ["", " " * margin]
    if kind == "nest":
        return rows_of(plan[2], sides, column, margin + plan[1], flat)
    if kind == "align":
        return rows_of(plan[1], sides, column, column, flat)
    if kind == "flat":
        return rows_of(plan[1], sides, column, margin, True)
    if kind == "choice":
        return rows_of(plan[1 + sides.pop(0)], sides, column, margin, flat)
    first = rows_of(plan[1], sides, column, margin, flat)
    column = len(first[-1]) + (column if len(first) == 1 else 0)
    second = rows_of(plan[2], sides, column, margin, flat)
    return first[:-1] + [first[-1] + second[0]] + second[1:]


def slowly_laid(plan, sides):
    return "\n".join(rows_of(plan, list(sides), 0, 0, False))


def some_plan(source, depth):
    """A plan of any kinds, drawn from the source."""
    leaves = ["text", "line", "cut"]
    others = ["nest", "align", "flat", "choice", "beside", "beside", "beside", "beside", source.choice(leaves)]
    kind = source.choice(others if depth > 0 else leaves)
    if kind == "text":
        return text("abcdef"[: source.randrange(7)])
    if kind in ("line", "cut"):
        return (kind,)
    if kind == "nest":
        return ("nest", source.randrange(5), some_plan(source, depth - 1))
    if kind in ("align", "flat"):
        return (kind, some_plan(source, depth - 1))
    return (kind, some_plan(source, depth - 1), some_plan(source, depth - 1))


def many_plans(number, depth, most_sides):
    """The same plans each time, none with more rows of sides than told."""
    source = random.Random(20)
    plans = []
    while len(plans) < number:
        plan = some_plan(source, depth)
        if len(all_sides(plan)) <= most_sides:
            plans.append(plan)
    return plans
