"""Plans: how they are made, counted and laid out, and what a text costs at a width."""

from printwell.errors import BadBits

BREAKS_IN_ONE_ROW = {"line": " ", "cut": ""}


def group(plan):
    return ("choice", ("flat", plan), plan)


def joined(plans):
    if not plans:
        return ("text", "")
    if len(plans) == 1:
        return plans[0]
    # Halves, and not one behind the other, so that a long list makes no deep plan.
    middle = len(plans) // 2
    return ("beside", joined(plans[:middle]), joined(plans[middle:]))


def filled(words):
    parts = []
    for word in words:
        if parts:
            parts.append(group(("line",)))
        parts.append(("text", word))
    return joined(parts)


def plans_within(plan):
    kind = plan[0]
    if kind == "text" or kind in BREAKS_IN_ONE_ROW:
        return []
    if kind == "nest":
        return [plan[2]]
    return list(plan[1:])


def parts_from_outside(plan):
    parts = []
    waiting = [plan]
    while waiting:
        part = waiting.pop()
        parts.append(part)
        waiting.extend(plans_within(part))
    return parts


def count(plan):
    # From the inside out, each part finds the counts of the plans within it at the end
    # of the list; a list in the place of calls bears plans of any depth.
    counts = []
    for part in reversed(parts_from_outside(plan)):
        kind = part[0]
        if kind == "beside":
            counts.append(counts.pop() * counts.pop())
        elif kind == "choice":
            counts.append(counts.pop() + counts.pop())
        elif not plans_within(part):
            counts.append(1)
    return counts[0]


class Sheet:
    def __init__(self):
        self.pieces = []
        self.column = 0

    def put(self, signs):
        self.pieces.append(signs)
        self.column += len(signs)

    def begin_row(self, margin):
        self.pieces.append("\n")
        self.column = 0
        self.put(" " * margin)


def side_taken(choice, bits, met):
    if met >= len(bits):
        raise BadBits("too few sides")
    bit = bits[met]
    if bit not in (0, 1):
        raise BadBits("a side is neither 0 nor 1")
    return choice[1 + bit]


def write_leaf(sheet, plan, margin, in_one_row):
    kind = plan[0]
    if kind == "text":
        sheet.put(plan[1])
    elif in_one_row:
        sheet.put(BREAKS_IN_ONE_ROW[kind])
    else:
        sheet.begin_row(margin)


def next_steps(plan, margin, in_one_row, column):
    kind = plan[0]
    if kind == "nest":
        return [(plan[2], margin + plan[1], in_one_row)]
    if kind == "align":
        return [(plan[1], column, in_one_row)]
    if kind == "flat":
        return [(plan[1], margin, True)]
    # The second plan first: steps are taken from the end of the list.
    return [(plan[2], margin, in_one_row), (plan[1], margin, in_one_row)]


def laid(plan, bits):
    sheet = Sheet()
    met = 0
    # A list of steps in the place of calls bears plans of any depth.
    waiting = [(plan, 0, False)]
    while waiting:
        step = waiting.pop()
        part = step[0]
        margin = step[1]
        in_one_row = step[2]
        if part[0] == "choice":
            waiting.append((side_taken(part, bits, met), margin, in_one_row))
            met += 1
        elif plans_within(part):
            waiting.extend(next_steps(part, margin, in_one_row, sheet.column))
        else:
            write_leaf(sheet, part, margin, in_one_row)
    if met < len(bits):
        raise BadBits("too many sides")
    return "".join(sheet.pieces)


def cost_of(text, width):
    beyond = sum([max(0, len(row) - width) for row in text.split("\n")])
    return (beyond, text.count("\n"))
