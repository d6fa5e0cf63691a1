"""Trees of tests: how they are made from rows, and where they lead a value."""

from shapetree.roads import needs_of, row_on_road, rows_after, rows_after_not, up_to_settled
from shapetree.shapes import KINDS, kind_of


# The plain way: it asks for nothing but what the first row needs, in the order of the places.
def question_in_order(rows):
    return rows[0][2][0]


def question_of_most_rows(rows):
    counts = {}
    for row in rows:
        for question in row[2]:
            counts[question] = counts.get(question, 0) + 1
    return max(counts, key=lambda question: counts[question])


# A row that does not need the answer goes on behind each answer. Such copies make a tree big, those of the
# leading rows more than others, since the rows behind them are not come to everywhere.
def copies_made(rows, question):
    copies = 2 if question[0] == "kind" else 1
    made = 0
    for index in range(len(rows)):
        if question not in rows[index][1]:
            made = made + copies * (len(rows) - index)
    return made


def question_of_fewest_copies(rows):
    return min(rows[0][2], key=lambda question: copies_made(rows, question))


# None of them makes the smallest tree for all rows, and for some rows each of them makes a far bigger one than
# another does.
WAYS = (question_of_most_rows, question_of_fewest_copies, question_in_order)


def atom_asked(rows, question):
    return [row[1][question] for row in rows if question in row[1]][0]


# The rows behind each answer, in the order in which the node names what comes after it.
def branches(rows, question):
    if question[0] == "kind":
        return [rows_after(rows, question, word) for word in KINDS]
    atom = atom_asked(rows, question)
    return [rows_after(rows, question, atom), rows_after_not(rows, question, atom)]


# The nodes that come after this one are numbered from `first` on.
def node_asking(rows, question, first):
    place = question[1]
    if question[0] == "kind":
        return ("kind", place, (first, first + 1, first + 2))
    return ("same", place, atom_asked(rows, question), first, first + 1)


# None where the tree would have more nodes than the bound.
def tree_grown(start, way, bound):
    tree = [("none",)]
    waiting = [(0, start)]
    while waiting:
        held = waiting.pop()
        number = held[0]
        rows = held[1]
        if rows and rows[0][1]:
            question = way(rows)
            tree[number] = node_asking(rows, question, len(tree))
            for branch in branches(rows, question):
                waiting.append((len(tree), branch))
                tree.append(("none",))
        elif rows:
            tree[number] = ("row", rows[0][0])
        if len(tree) > bound:
            return None
    return tree


def rows_at_start(rows):
    rows_needs = [needs_of(row) for row in rows]
    return up_to_settled([row_on_road(number, rows_needs[number]) for number in range(len(rows))])


# The bound rises for all the ways together, so that a way with a tree beyond all bounds holds up no other.
def tree_of(rows):
    start = rows_at_start(rows)
    bound = 1000
    smallest = None
    while smallest is None:
        for way in WAYS:
            tree = tree_grown(start, way, bound)
            if tree is not None:
                smallest = tree
                bound = len(tree) - 1
        bound = bound * 4
    return smallest


def part_at(value, place):
    part = value
    for side in place:
        part = part[side]
    return part


def led(tree, value):
    node = tree[0]
    while node[0] in ("kind", "same"):
        part = part_at(value, node[1])
        if node[0] == "kind":
            node = tree[node[2][KINDS.index(kind_of(part))]]
        else:
            node = tree[node[3] if part == node[2] else node[4]]
    return node[1] if node[0] == "row" else None
