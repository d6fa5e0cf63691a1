"""What the tests share: shapes, values, many rows, and points 4 to 10 of the document written down once more."""

import itertools
import random
import unittest

from shapetree.shapes import fits

ANY = ("any",)
NUMBER = ("kind", "number")
TEXT = ("kind", "text")
PAIR = ("kind", "pair")
KINDS = [NUMBER, TEXT, PAIR]

LONG = 123456789012345678901234567890
SIGNS = "".join(chr(code) for code in range(32, 127) if chr(code) != "%")


def pair(one, two):
    return ("pair", one, two)


def same(atom):
    return ("same", atom)


def as_value(one, two):
    return (one, two)


def nested(sides, inner, beside, join):
    """Holds `inner` at the place `sides`, with `beside(k)` on the other side at each step."""
    held = inner
    for step in reversed(range(len(sides))):
        other = beside(step)
        held = join(held, other) if sides[step] == 0 else join(other, held)
    return held


# On the first side, on the second, on both in turn, and on the first to the half and then on the second.
SIDES_OF_DEPTH = [
    lambda depth: [0] * depth,
    lambda depth: [1] * depth,
    lambda depth: [step % 2 for step in range(depth)],
    lambda depth: [0 if step < depth // 2 else 1 for step in range(depth)],
]


def chain(parts, join=pair):
    """The parts one behind the other in pairs: the last two stand in one pair."""
    held = parts[-1]
    for part in reversed(parts[:-1]):
        held = join(part, held)
    return held


def columns(count, given):
    """A chain of `count` shapes: those that are given by number, and else ("any",)."""
    return chain([given.get(number, ANY) for number in range(count)])


def kind_name(value):
    return "number" if type(value) is int else "text" if type(value) is str else "pair"


def is_value(value):
    if type(value) is tuple:
        return len(value) == 2 and is_value(value[0]) and is_value(value[1])
    if type(value) is str:
        return all(sign in SIGNS for sign in value)
    return type(value) is int


def first_fit(rows, value):
    for number, shape in enumerate(rows):
        if fits(shape, value):
            return number
    return None


def compatible(one, two):
    """Whether some value fits both shapes."""
    if one == ANY or two == ANY:
        return True
    if one[0] == "pair" and two[0] == "pair":
        return compatible(one[1], two[1]) and compatible(one[2], two[2])
    if one[0] == "same" and two[0] == "same":
        return one == two
    return kind_wanted(one) == kind_wanted(two)


def kind_wanted(shape):
    return {"kind": shape[-1], "pair": "pair", "same": kind_name(shape[-1])}[shape[0]]


def values_standing_for_all(shapes):
    """Values so that each value whatever fits the same of these shapes as one of them."""
    values = list(dict.fromkeys(shape[1] for shape in shapes if shape[0] == "same")) + [987654, "strange"]
    pairs = [shape for shape in shapes if shape[0] == "pair"]
    if not pairs:
        return values + [(0, 0)]
    ones = values_standing_for_all([shape[1] for shape in pairs])
    twos = values_standing_for_all([shape[2] for shape in pairs])
    return values + list(itertools.product(ones, twos))


def count_standing_for_all(shapes):
    """How many those values would be: they may be far too many to be listed."""
    pairs = [shape for shape in shapes if shape[0] == "pair"]
    within = [count_standing_for_all([shape[side] for shape in pairs]) for side in (1, 2)] if pairs else [1, 1]
    return len({shape[1] for shape in shapes if shape[0] == "same"}) + 2 + within[0] * within[1]


def drawn_shape(chance, depth, leaves):
    if depth == 0 or chance.random() < 0.35:
        return chance.choice(leaves)
    return pair(drawn_shape(chance, depth - 1, leaves), drawn_shape(chance, depth - 1, leaves))


def drawn_value(chance, shape, atoms):
    """A value that fits the shape, but now and then at some places."""
    if chance.random() < 0.05:
        return chance.choice(atoms)
    if shape[0] == "pair":
        return (drawn_value(chance, shape[1], atoms), drawn_value(chance, shape[2], atoms))
    if shape[0] == "same":
        return shape[1]
    numbers = [atom for atom in atoms if type(atom) is int]
    texts = [atom for atom in atoms if type(atom) is str]
    pairs = [(one, two) for one in atoms for two in atoms[:3]]
    of_kind = {"number": numbers, "text": texts, "pair": pairs, "any": numbers + texts + pairs[:4]}
    return chance.choice(of_kind[shape[-1]])


ATOMS = [0, 1, -1, LONG, -LONG, "", "a", "0", " "]
FEW_ATOMS = [0, "", 1]


def leaves_with(anys, kinds, atoms):
    return [ANY] * anys + KINDS * kinds + [same(atom) for atom in atoms]


def split_rows(chance, count):
    """Rows of which each value fits just one: those of ("any",), one of its places split by kind again and again."""
    rows = [{}]
    while len(rows) < count:
        row = rows.pop(chance.randrange(len(rows)))
        places = [()] if not row else [
            place + (side,) for place in row if row[place] == "pair" for side in (0, 1) if place + (side,) not in row]
        if places:
            place = chance.choice(places)
            rows.extend({**row, place: word} for word in ("number", "text", "pair"))
        else:
            rows.append(row)
    chance.shuffle(rows)
    return [shape_of_kinds(row, ()) for row in rows]


def shape_of_kinds(kinds, place):
    if kinds.get(place) != "pair":
        return ("kind", kinds[place]) if place in kinds else ANY
    return pair(shape_of_kinds(kinds, place + (0,)), shape_of_kinds(kinds, place + (1,)))


def drawn_rows():
    """Many rows, from two to forty-three of them: the same each time."""
    found = []
    for number in range(64):
        chance = random.Random(number)
        leaves = leaves_with(*[(1, 1, ATOMS), (3, 1, FEW_ATOMS), (2, 2, []), (8, 1, FEW_ATOMS)][number % 4])
        count = [2, 5, 12, 43][number // 4 % 4]
        depth = 1 + number // 16 % 3
        # Mostly pairs: a row like ("any",) would leave those behind it nothing.
        rows = [pair(drawn_shape(chance, depth, leaves), drawn_shape(chance, depth, leaves)) for row in range(count)]
        if number % 3 == 0:
            rows[count // 2] = chance.choice(leaves[1:])
        if number % 5 == 0:
            # Equal rows, which are never come to.
            rows = rows[:count // 2] + [chance.choice(rows) for row in range(count - count // 2)]
        found.append(rows)
    return found


def deep_rows(depth):
    """Rows that differ only far within, on each side, with an ("any",) or a kind there behind the atoms."""
    found = []
    for sides_of in SIDES_OF_DEPTH:
        sides = sides_of(depth)
        ends = [same(0), same(""), same(-LONG), TEXT, pair(same(1), ANY), NUMBER, same(5), PAIR, ANY]
        found.append([nested(sides, end, lambda step: ANY, pair) for end in ends])
        found.append([nested(sides, end, lambda step: same(step), pair) for end in ends])
        # Each row leaves the road at another step.
        found.append([nested(sides[:step], same(step), lambda step: ANY, pair) for step in range(0, depth, 5)])
    return found


def told_apart_late(count):
    """Rows that the last of their places tells apart, while each of them asks for other places ahead of it."""
    rows = []
    for number in range(count):
        rows.append(columns(count + 1, {number: KINDS[number % 3], count: same(number // 2)}))
    return rows


class Road:
    """What has been told ahead of a node: kinds and atoms that stand at places, and atoms that don't."""

    def __init__(self, kinds, atoms, barred):
        self.kinds = kinds
        self.atoms = atoms
        self.barred = barred

    def with_kind(self, place, word):
        return Road({**self.kinds, place: word}, self.atoms, self.barred)

    def with_atom(self, place, atom):
        return Road(self.kinds, {**self.atoms, place: atom}, self.barred)

    def without_atom(self, place, atom):
        return Road(self.kinds, self.atoms, {**self.barred, place: self.barred.get(place, []) + [atom]})

    def rules_out(self, shape, place=()):
        """Whether what has been told lets no value fit the shape at this place."""
        if shape == ANY or place not in self.kinds:
            return False
        if self.kinds[place] != kind_wanted(shape):
            return True
        if shape[0] == "pair":
            return self.rules_out(shape[1], place + (0,)) or self.rules_out(shape[2], place + (1,))
        if shape[0] == "same":
            return self.atoms.get(place, shape[1]) != shape[1] or shape[1] in self.barred.get(place, [])
        return False

    def tells(self, shape, place=()):
        """Whether by what has been told every value fits the shape at this place."""
        if shape == ANY:
            return True
        if self.kinds.get(place) != kind_wanted(shape):
            return False
        if shape[0] == "pair":
            return self.tells(shape[1], place + (0,)) and self.tells(shape[2], place + (1,))
        return shape[0] == "kind" or (place in self.atoms and self.atoms[place] == shape[1])

    def value(self, place=()):
        """A value that takes this road; a pair of texts where nothing has been told."""
        if place in self.atoms:
            return self.atoms[place]
        word = self.kinds.get(place)
        if word == "pair":
            return (self.value(place + (0,)), self.value(place + (1,)))
        if word == "number":
            return next(number for number in itertools.count(-3) if number not in self.barred.get(place, []))
        if word == "text":
            return next(text for text in map(str, itertools.count(7)) if text not in self.barred.get(place, []))
        return ("not", "told")


def after(node, road):
    """The numbers of the nodes after this one, each with its road."""
    if node[0] == "kind":
        return [(node[2][k], road.with_kind(node[1], word)) for k, word in enumerate(("number", "text", "pair"))]
    if node[0] == "same":
        return [(node[3], road.with_atom(node[1], node[2])), (node[4], road.without_atom(node[1], node[2]))]
    return []


def roads_of(tree):
    """Each node with its road, from node nought on."""
    found = []
    waiting = [(0, Road({}, {}, {}))]
    while waiting:
        number, road = waiting.pop()
        found.append((tree[number], road))
        waiting.extend(after(tree[number], road))
    return found


class RowsCase(unittest.TestCase):
    """Holds trees and what is told against the points of the document."""

    def check_node(self, node, row_count):
        self.assertIs(type(node), tuple)
        self.assertIn(node[0], ("row", "none", "kind", "same"))
        self.assertEqual(len(node), {"row": 2, "none": 1, "kind": 3, "same": 5}[node[0]])
        if node[0] == "row":
            self.assertIs(type(node[1]), int)
            self.assertIn(node[1], range(row_count))
        if node[0] in ("kind", "same"):
            self.assertIs(type(node[1]), tuple)
            for side in node[1]:
                self.assertIs(type(side), int)
                self.assertIn(side, (0, 1))
        if node[0] == "kind":
            self.assertIs(type(node[2]), tuple)
            self.assertEqual(len(node[2]), 3)
        if node[0] == "same":
            self.assertIn(type(node[2]), (int, str))

    def check_form(self, tree, row_count):
        """Point 6."""
        self.assertIs(type(tree), list)
        named = []
        for number, node in enumerate(tree):
            self.check_node(node, row_count)
            following = {"kind": node[-1], "same": node[-2:]}.get(node[0], ())
            for other in following:
                self.assertIs(type(other), int)
                self.assertGreater(other, number)
            named.extend(following)
        self.assertEqual(sorted(named), list(range(1, len(tree))))

    def check_roads(self, roads):
        """Point 7."""
        for node, road in roads:
            if node[0] in ("kind", "same"):
                place = node[1]
                if node[0] == "kind":
                    self.assertNotIn(place, road.kinds)
                    self.assertTrue(place == () or road.kinds.get(place[:-1]) == "pair", (node, road.kinds))
                else:
                    self.assertEqual(road.kinds.get(place), kind_name(node[2]))
                    self.assertNotIn(place, road.atoms)
                    self.assertNotIn(node[2], road.barred.get(place, []))

    def check_ends(self, roads, rows):
        """Point 8, for every value: a road's end is right for all values that take the road."""
        for node, road in roads:
            if node[0] in ("row", "none"):
                ahead = rows if node[0] == "none" else rows[:node[1]]
                for shape in ahead:
                    self.assertTrue(road.rules_out(shape), (node, shape))
                if node[0] == "row":
                    self.assertTrue(road.tells(rows[node[1]]), (node, road.kinds))

    def check_tree(self, tree, rows):
        """Gives back each node of the tree with its road."""
        self.check_form(tree, len(rows))
        roads = roads_of(tree)
        self.check_roads(roads)
        self.check_ends(roads, rows)
        return roads

    def check_come(self, rows, number, value):
        self.assertTrue(is_value(value), value)
        self.assertEqual(first_fit(rows, value), number)

    def check_one_told(self, rows, number, one):
        self.assertIs(type(one), tuple)
        self.assertEqual(len(one), 2)
        self.assertIn(one[0], ("come", "never"))
        if one[0] == "come":
            self.check_come(rows, number, one[1])
            return
        self.assertIs(type(one[1]), list)
        for entry in one[1]:
            self.assertIs(type(entry), tuple)
            self.assertEqual(len(entry), 2)
            self.assertIs(type(entry[0]), int)
            self.check_come(rows, entry[0], entry[1])
            self.assertTrue(fits(rows[number], entry[1]), (number, entry))
        numbers = [entry[0] for entry in one[1]]
        self.assertEqual(numbers, sorted(set(numbers)))

    def check_told(self, rows, answer, others):
        """Point 9. `others` gives for each row None where it is come to, else the numbers that its values lead to."""
        self.assertIs(type(answer), list)
        self.assertEqual(len(answer), len(rows))
        for number, one in enumerate(answer):
            self.check_one_told(rows, number, one)
            given = None if one[0] == "come" else [entry[0] for entry in one[1]]
            self.assertEqual(given, others[number], (rows, number))

    def check_unfit(self, rows, answer, is_some):
        """Point 10."""
        self.assertIs(type(answer), list)
        self.assertEqual(len(answer), 1 if is_some else 0, rows)
        for value in answer:
            self.assertTrue(is_value(value), value)
            self.assertIsNone(first_fit(rows, value))
