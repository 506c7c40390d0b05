"""Plans: how they are made, counted and laid out, and what a text costs at a width."""

from printwell.errors import BadBits

BREAKS_IN_ONE_ROW = {"line": " ", "cut": ""}
WRAPPERS = ("nest", "align", "flat")


def group(plan):
    return ("choice", ("flat", plan), plan)


def joined(plans):
    if not plans:
        return ("text", "")
    if len(plans) == 1:
        return plans[0]
    # Halves, and not one behind the other, so that a long list makes no deep plan.
    middle = len(plans) // 2
    return ("beside", joined(plans[:middle]), joined(plans[middle:]))


def filled(words):
    parts = []
    for word in words:
        if parts:
            parts.append(group(("line",)))
        parts.append(("text", word))
    return joined(parts)


def is_leaf(plan):
    return plan[0] == "text" or plan[0] in BREAKS_IN_ONE_ROW


def signs_in_one_row(leaf):
    return leaf[1] if leaf[0] == "text" else BREAKS_IN_ONE_ROW[leaf[0]]


def core_of(plan):
    while plan[0] in WRAPPERS:
        plan = plan[-1]
    return plan


def cores_within(core):
    if is_leaf(core):
        return []
    first = core_of(core[1])
    second = core_of(core[2])
    # A group holds its plan twice: gone through twice, groups within groups double the work each time.
    return [first] if first == second else [first, second]


# Cores are leaves, besides and choices, whatever wrappers are round them; each stands here with
# how many cores it has just within it.
def cores_from_outside(plan):
    cores = []
    # A list in the place of calls bears plans of any depth.
    waiting = [core_of(plan)]
    while waiting:
        core = waiting.pop()
        within = cores_within(core)
        cores.append((core, len(within)))
        waiting.extend(within)
    return cores


def count(plan):
    # From the inside out, each core finds the counts of those within it at the end of the list.
    counts = []
    for step in reversed(cores_from_outside(plan)):
        if step[1] == 0:
            counts.append(1)
            continue
        second = counts.pop()
        first = counts.pop() if step[1] == 2 else second
        counts.append(first * second if step[0][0] == "beside" else first + second)
    return counts[0]


class Sheet:
    def __init__(self):
        self.pieces = []
        self.column = 0

    def put(self, signs):
        self.pieces.append(signs)
        self.column += len(signs)

    def begin_row(self, margin):
        self.pieces.append("\n")
        self.column = 0
        self.put(" " * margin)


def side_taken(choice, bits, met):
    if met >= len(bits):
        raise BadBits("too few sides")
    bit = bits[met]
    if bit not in (0, 1):
        raise BadBits("a side is neither 0 nor 1")
    return choice[1 + bit]


def write_leaf(sheet, plan, margin, in_one_row):
    if plan[0] == "text" or in_one_row:
        sheet.put(signs_in_one_row(plan))
    else:
        sheet.begin_row(margin)


def next_steps(plan, margin, in_one_row, column):
    kind = plan[0]
    if kind == "nest":
        return [(plan[2], margin + plan[1], in_one_row)]
    if kind == "align":
        return [(plan[1], column, in_one_row)]
    if kind == "flat":
        return [(plan[1], margin, True)]
    # The second plan first: steps are taken from the end of the list.
    return [(plan[2], margin, in_one_row), (plan[1], margin, in_one_row)]


def laid(plan, bits):
    sheet = Sheet()
    met = 0
    # As above, steps in the place of calls.
    waiting = [(plan, 0, False)]
    while waiting:
        step = waiting.pop()
        part = step[0]
        margin = step[1]
        in_one_row = step[2]
        if part[0] == "choice":
            waiting.append((side_taken(part, bits, met), margin, in_one_row))
            met += 1
        elif is_leaf(part):
            write_leaf(sheet, part, margin, in_one_row)
        else:
            waiting.extend(next_steps(part, margin, in_one_row, sheet.column))
    if met < len(bits):
        raise BadBits("too many sides")
    return "".join(sheet.pieces)


def cost_of(text, width):
    beyond = sum([max(0, len(row) - width) for row in text.split("\n")])
    return (beyond, text.count("\n"))
