"""The best way to lay out a plan, found without going through all of them."""

from printwell.plans import WRAPPERS, cores_from_outside, laid, signs_in_one_row

# A sign beyond the width counts more than all the line ends that a text may have, so that one
# number holds both costs: it is added up and compared at once.
SIGN_BEYOND = 1000000000000


# A plan as numbered nodes, equal ones once, so that what is found out of a node holds wherever the
# plan has it: texts (with their length alone), breaks, nests, aligns, besides and choices. What is
# in one row has nodes of its own, of texts in the place of breaks; so no node is flat.
class Nodes:
    def __init__(self):
        self.listed = []
        self.numbers = {}
        # The least length of each node that never breaks, None for the others.
        self.lengths = []

    def number_of(self, node):
        if node not in self.numbers:
            self.numbers[node] = len(self.listed)
            self.listed.append(node)
            self.lengths.append(self.length_of(node))
        return self.numbers[node]

    def length_of(self, node):
        if node[0] == "text":
            return node[1]
        if node[0] not in ("beside", "choice"):
            return None
        first = self.lengths[node[1]]
        second = self.lengths[node[2]]
        if first is None or second is None:
            return None
        return first + second if node[0] == "beside" else min(first, second)

    def root_of(self, plan):
        # From the inside out, each core finds the pairs of those within it at the end of the list:
        # the number of a core as it is, and its number in one row.
        pairs = []
        for step in reversed(cores_from_outside(plan)):
            if step[1] == 0:
                pairs.append(self.pair_of_leaf(step[0]))
                continue
            second = pairs.pop()
            first = pairs.pop() if step[1] == 2 else second
            pairs.append(self.pair_of_two(step[0], first, second))
        return self.pair_of_plan(plan, pairs[0])[0]

    def pair_of_leaf(self, leaf):
        in_one_row = self.number_of(("text", len(signs_in_one_row(leaf))))
        if leaf[0] == "text":
            return (in_one_row, in_one_row)
        return (self.number_of(("break",)), in_one_row)

    def pair_of_two(self, core, first, second):
        first = self.pair_of_plan(core[1], first)
        second = self.pair_of_plan(core[2], second)
        as_it_is = self.number_of((core[0], first[0], second[0]))
        return (as_it_is, self.number_of((core[0], first[1], second[1])))

    def pair_of_plan(self, plan, pair_of_core):
        pair = pair_of_core
        wrappers = []
        while plan[0] in WRAPPERS:
            wrappers.append(plan)
            plan = plan[-1]
        for wrapper in reversed(wrappers):
            pair = self.pair_round(wrapper, pair)
        return pair

    def pair_round(self, wrapper, pair):
        if wrapper[0] == "flat":
            return (pair[1], pair[1])
        if self.lengths[pair[0]] is not None:
            # Without a break, a margin shows nowhere.
            return pair
        if wrapper[0] == "nest":
            return (self.number_of(("nest", wrapper[1], pair[0])), pair[1])
        return (self.number_of(("align", pair[0])), pair[1])


def add_ends(ends, more, spent):
    for column in more:
        cost = spent + more[column]
        if column not in ends or cost < ends[column]:
            ends[column] = cost


def undominated(ends):
    # What follows costs no less from a greater column, so such an end is kept only if it is cheaper.
    kept = {}
    least = None
    for column in sorted(ends):
        if least is None or ends[column] < least:
            least = ends[column]
            kept[column] = least
    return kept


# A spot is a node's number, with the column and the margin with which it is begun. Its ends are the
# columns where its layouts end, with the least cost of each: what follows depends on nothing else.
class Search:
    def __init__(self, nodes, width):
        self.nodes = nodes
        self.width = width
        self.known = {}

    def cost_of_signs(self, column, length):
        return SIGN_BEYOND * min(length, max(0, column + length - self.width))

    def cost_of_break(self, margin):
        return 1 + self.cost_of_signs(0, margin)

    def spot_of(self, number, column, margin):
        # Nests and aligns only move the margin, so their ends are those of the node within.
        node = self.nodes.listed[number]
        while node[0] in ("nest", "align"):
            margin = margin + node[1] if node[0] == "nest" else column
            number = node[-1]
            node = self.nodes.listed[number]
        return (number, column, margin)

    def ends_of(self, number, column, margin):
        wanted = self.spot_of(number, column, margin)
        # A list in the place of calls bears plans of any depth.
        waiting = [wanted]
        while waiting:
            spot = waiting[-1]
            missing = [] if spot in self.known else self.missing_for(spot)
            if missing:
                waiting.extend(missing)
                continue
            waiting.pop()
            if spot not in self.known:
                self.known[spot] = self.worked_out(spot)
        return self.known[wanted]

    def missing_for(self, spot):
        number = spot[0]
        column = spot[1]
        margin = spot[2]
        node = self.nodes.listed[number]
        if self.nodes.lengths[number] is not None or node[0] == "break":
            return []
        needed = [self.spot_of(node[1], column, margin)]
        if node[0] == "choice":
            needed.append(self.spot_of(node[2], column, margin))
        elif needed[0] in self.known:
            needed = [self.spot_of(node[2], end, margin) for end in self.known[needed[0]]]
        return [other for other in needed if other not in self.known]

    def worked_out(self, spot):
        number = spot[0]
        column = spot[1]
        margin = spot[2]
        node = self.nodes.listed[number]
        length = self.nodes.lengths[number]
        if length is not None:
            return {column + length: self.cost_of_signs(column, length)}
        if node[0] == "break":
            return {margin: self.cost_of_break(margin)}
        first = self.ends_of(node[1], column, margin)
        if node[0] == "beside":
            return self.ends_behind(first, node[2], margin)
        ends = dict(first)
        add_ends(ends, self.ends_of(node[2], column, margin), 0)
        return undominated(ends)

    def ends_behind(self, begins, number, margin):
        ends = {}
        for column in begins:
            add_ends(ends, self.ends_of(number, column, margin), begins[column])
        return undominated(ends)

    def least_cost(self, waiting, column):
        ends = {column: 0}
        for step in reversed(waiting):
            ends = self.ends_behind(ends, step[0], step[1])
        return min(ends.values())

    # The cost is the least one; what is laid out is taken from it, so that it stays what the rest may cost.
    def first_sides(self, root, cost):
        sides = []
        column = 0
        waiting = [(root, 0)]
        while waiting:
            step = waiting.pop()
            spot = self.spot_of(step[0], column, step[1])
            node = self.nodes.listed[spot[0]]
            margin = spot[2]
            if node[0] == "text":
                cost -= self.cost_of_signs(column, node[1])
                column += node[1]
            elif node[0] == "break":
                cost -= self.cost_of_break(margin)
                column = margin
            elif node[0] == "beside":
                waiting.extend([(node[2], margin), (node[1], margin)])
            else:
                side = self.first_side(node, margin, waiting, column, cost)
                sides.append(side)
                waiting.append((node[1 + side], margin))
        return sides

    def first_side(self, choice, margin, waiting, column, cost):
        if choice[1] == choice[2]:
            return 0
        with_0 = waiting + [(choice[1], margin)]
        return 0 if self.least_cost(with_0, column) == cost else 1


def choose(plan, width):
    nodes = Nodes()
    root = nodes.root_of(plan)
    search = Search(nodes, width)
    cost = search.least_cost([(root, 0)], 0)
    beyond = cost // SIGN_BEYOND
    line_ends = cost % SIGN_BEYOND
    return (beyond, line_ends, search.first_sides(root, cost))


def printed(plan, width):
    return laid(plan, choose(plan, width)[2])
