"""What several tests need: short ways to write plans, a second, plain way for what the program does, many inputs."""

import contextlib
import random
import signal

LINE = ("line",)
CUT = ("cut",)


def text(signs):
    return ("text", signs)


def beside(*plans):
    whole = plans[-1]
    for plan in reversed(plans[:-1]):
        whole = ("beside", plan, whole)
    return whole


def all_sides(plan):
    """Every list of sides that fits the plan, in the order of the lists."""
    kind = plan[0]
    if kind in ("text", "line", "cut"):
        return [[]]
    if kind == "beside":
        return [a + b for a in all_sides(plan[1]) for b in all_sides(plan[2])]
    if kind == "choice":
        return [[0] + s for s in all_sides(plan[1])] + [[1] + s for s in all_sides(plan[2])]
    return all_sides(plan[-1])


def rows_of(plan, sides, column, margin, flat):
    """The plan's rows, the first one without what stands ahead of it; takes its sides from the list."""
    kind = plan[0]
    if kind == "text":
        return [plan[1]]
    if kind in ("line", "cut"):
        if flat:
            return [" " if kind == "line" else ""]
        return ["", " " * margin]
    if kind == "nest":
        return rows_of(plan[2], sides, column, margin + plan[1], flat)
    if kind == "align":
        return rows_of(plan[1], sides, column, column, flat)
    if kind == "flat":
        return rows_of(plan[1], sides, column, margin, True)
    if kind == "choice":
        return rows_of(plan[1 + sides.pop(0)], sides, column, margin, flat)
    first = rows_of(plan[1], sides, column, margin, flat)
    column = len(first[-1]) + (column if len(first) == 1 else 0)
    second = rows_of(plan[2], sides, column, margin, flat)
    return first[:-1] + [first[-1] + second[0]] + second[1:]


def slowly_laid(plan, sides):
    return "\n".join(rows_of(plan, list(sides), 0, 0, False))


def some_plan(source, depth):
    """A plan of any kinds, drawn from the source."""
    leaves = ["text", "line", "cut"]
    others = ["nest", "align", "flat", "choice", "beside", "beside", "beside", "beside", source.choice(leaves)]
    kind = source.choice(others if depth > 0 else leaves)
    if kind == "text":
        return text("abcdef"[: source.randrange(7)])
    if kind in ("line", "cut"):
        return (kind,)
    if kind == "nest":
        return ("nest", source.randrange(5), some_plan(source, depth - 1))
    if kind in ("align", "flat"):
        return (kind, some_plan(source, depth - 1))
    return (kind, some_plan(source, depth - 1), some_plan(source, depth - 1))


def many_plans(number, depth, most_sides):
    """The same plans each time, none with more rows of sides than told."""
    source = random.Random(20)
    plans = []
    while len(plans) < number:
        plan = some_plan(source, depth)
        if len(all_sides(plan)) <= most_sides:
            plans.append(plan)
    return plans


def best_of_all(plan, width):
    """The best sides with their cost, found by going through all of them."""
    costs = []
    for sides in all_sides(plan):
        rows = slowly_laid(plan, sides).split("\n")
        costs.append((sum(max(0, len(row) - width) for row in rows), len(rows) - 1, sides))
    return min(costs)


def best_by_columns(plan, width):
    """The same for larger plans: of each part, from each place and for each column where it may end."""
    known = {}

    def ends(part, column, margin, flat):
        key = (id(part), column, margin, flat)
        if key not in known:
            known[key] = worked_out(part, column, margin, flat)
        return known[key]

    def worked_out(part, column, margin, flat):
        kind = part[0]
        if kind == "text" or flat and kind in ("line", "cut"):
            length = len(part[1]) if kind == "text" else int(kind == "line")
            beyond = len([place for place in range(column, column + length) if place >= width])
            return {column + length: (beyond, 0, [])}
        if kind in ("line", "cut"):
            return {margin: (max(0, margin - width), 1, [])}
        if kind == "nest":
            return ends(part[2], column, margin + part[1], flat)
        if kind == "align":
            return ends(part[1], column, column, flat)
        if kind == "flat":
            return ends(part[1], column, margin, True)
        found = []
        if kind == "choice":
            for side in (0, 1):
                for end, (beyond, breaks, sides) in ends(part[1 + side], column, margin, flat).items():
                    found.append((end, (beyond, breaks, [side] + sides)))
        else:
            for middle, first in ends(part[1], column, margin, flat).items():
                for end, second in ends(part[2], middle, margin, flat).items():
                    found.append((end, tuple(a + b for a, b in zip(first, second))))
        least = {}
        for end, cost in found:
            least[end] = min(cost, least.get(end, cost))
        return least

    return min(ends(plan, 0, 0, False).values())


def some_large_plan(source, tuples, depth, longest):
    """A plan of about so many tuples, with choices low in it, so that its rows of sides are many."""
    if tuples <= 2 or depth <= 1:
        kind = source.choice(["text", "text", "line", "cut"])
        return text("x" * source.randrange(longest + 1)) if kind == "text" else (kind,)
    low = ["choice"] * 12 + ["beside"] * 2 + ["flat"]
    kind = source.choice(["nest", "align"] + (low if tuples < 8 else ["beside"] * 10))
    if kind == "nest":
        return ("nest", source.randrange(longest + 1), some_large_plan(source, tuples - 1, depth - 1, longest))
    if kind in ("align", "flat"):
        return (kind, some_large_plan(source, tuples - 1, depth - 1, longest))
    first = source.randrange(1, tuples - 1)
    return (
        kind,
        some_large_plan(source, first, depth - 1, longest),
        some_large_plan(source, tuples - 1 - first, depth - 1, longest),
    )


def some_tree(source, tuples, depth):
    """The tree of an expression, of at most so many tuples that are trees."""
    if tuples <= 1 or depth <= 1:
        return source.choice([
            ("name", "abcdef"[: source.randrange(1, 7)]), ("number", source.choice([0, 7, 42, 12345])),
            ("call", "fun"[: source.randrange(1, 4)], ()), ("row", ()),
        ])
    kind = source.choice(["*", "+", "-", "*", "+", "-", "call", "row"])
    if kind in ("call", "row") or tuples == 2:
        length = source.randrange(1, min(tuples, 5))
        parts = tuple(some_tree(source, (tuples - 1) // length, depth - 1) for part in range(length))
        return ("call", "fun", parts) if kind == "call" else ("row", parts)
    first = source.randrange(1, tuples - 1)
    return (kind, some_tree(source, first, depth - 1), some_tree(source, tuples - 1 - first, depth - 1))


def many_trees(number):
    source = random.Random(21)
    return [some_tree(source, source.choice([1, 2, 3, 4, 6, 10, 20, 60]), 12) for tree in range(number)]


@contextlib.contextmanager
def short_time(seconds=10):
    """Fails, and does not wait on, where the work takes far longer than it should."""
    def stop(number, frame):
        raise AssertionError(f"took longer than {seconds} seconds")

    before = signal.signal(signal.SIGALRM, stop)
    signal.alarm(seconds)
    try:
        yield
    finally:
        signal.alarm(0)
        signal.signal(signal.SIGALRM, before)
