import copy
import itertools
import random
import unittest

from helping import (
    ANY, ATOMS, KINDS, LONG, NUMBER, PAIR, SIGNS, TEXT, RowsCase, as_value, chain, columns, count_standing_for_all,
    deep_rows, drawn_rows, drawn_value, first_fit, nested, pair, roads_of, same, split_rows, told_apart_late,
    values_standing_for_all)
from shapetree.trees import led, tree_of

THREE_ROWS = [PAIR, pair(same(1), ANY), NUMBER]

BEFORE_NOUGHT = pair(ANY, same(0))
AFTER_NOUGHT = pair(same(0), ANY)


class TreesCase(RowsCase):
    def check_values(self, tree, rows, values):
        for value in values:
            self.assertEqual(led(tree, value), first_fit(rows, value), (rows, value))

    def check_rows(self, rows, values=()):
        tree = tree_of(rows)
        # A value for each road: so each node is come to, and each end is held against the rows.
        for node, road in self.check_tree(tree, rows):
            if node[0] in ("row", "none"):
                value = road.value()
                self.assertEqual(led(tree, value), None if node[0] == "none" else node[1])
                self.assertEqual(led(tree, value), first_fit(rows, value), (rows, value))
        self.check_values(tree, rows, values)
        return tree


class WhereATreeLeads(unittest.TestCase):
    """led, on trees that are written out here."""

    def test_the_place_of_the_document(self):
        value = (7, ("a", 2))
        for place, atom in [((1, 0), "a"), ((0,), 7), ((1, 1), 2)]:
            self.assertEqual(led([("same", place, atom, 1, 2), ("row", 4), ("none",)], value), 4)
        for place, atom in [((1, 0), "b"), ((0,), 2), ((1, 1), 7), ((1,), "a"), ((), 7)]:
            self.assertIsNone(led([("same", place, atom, 1, 2), ("row", 4), ("none",)], value))
        kinds = {(): 3, (0,): 1, (1,): 3, (1, 0): 2, (1, 1): 1}
        for place, row in kinds.items():
            tree = [("kind", place, (1, 2, 3)), ("row", 1), ("row", 2), ("row", 3)]
            self.assertEqual(led(tree, value), row)

    def test_an_end_at_once(self):
        for value in (0, "", (1, 2)):
            self.assertIsNone(led([("none",)], value))
            self.assertEqual(led([("row", 0)], value), 0)
            self.assertEqual(led([("row", 42)], value), 42)

    def test_kinds(self):
        tree = [("kind", (), (1, 2, 3)), ("row", 7), ("none",), ("row", 0)]
        for value in (0, -1, LONG, -LONG):
            self.assertEqual(led(tree, value), 7)
        for value in ("", "a", "pair", "0"):
            self.assertIsNone(led(tree, value))
        for value in ((0, 0), ("a", ("b", "c"))):
            self.assertEqual(led(tree, value), 0)

    def test_nodes_in_another_order(self):
        tree = [("kind", (), (4, 1, 2)), ("same", (), "", 6, 3), ("row", 2), ("row", 1), ("same", (), 0, 5, 7),
                ("row", 5), ("row", 6), ("none",)]
        self.assertEqual([led(tree, value) for value in (0, 1, "", " ", (0, ""))], [5, None, 6, 1, 2])

    def test_atoms_of_the_other_kind_and_close_ones(self):
        for atom, others in [(0, ["", "0", 1, (0, 0)]), ("0", [0, "", "00"]), ("", [0, " ", ("", "")]),
                             (LONG, [-LONG, LONG + 1, str(LONG)])]:
            tree = [("same", (), atom, 1, 2), ("row", 0), ("row", 1)]
            self.assertEqual(led(tree, atom), 0)
            self.assertEqual([led(tree, value) for value in others], [1] * len(others))

    def test_a_part_that_only_some_roads_ask_for(self):
        tree = [("kind", (), (1, 2, 3)), ("row", 0), ("none",), ("kind", (1,), (4, 5, 6)), ("row", 1), ("row", 2),
                ("same", (1, 1), "x", 7, 8), ("row", 3), ("none",)]
        values = [5, "", (0, 0), (0, ""), (0, (0, "x")), (0, (0, 0)), (0, ("x", ("x", "x")))]
        self.assertEqual([led(tree, value) for value in values], [0, None, 1, 2, 3, None, None])

    def test_a_long_road_and_a_deep_value(self):
        count = 5000
        tree = []
        for number in range(count):
            tree.extend([("same", (), number, 2 * number + 1, 2 * number + 2), ("row", number)])
        tree.append(("none",))
        self.assertEqual(led(tree, count - 1), count - 1)
        self.assertIsNone(led(tree, count))
        for depth in (50, 51, 300):
            place = tuple(step % 2 for step in range(depth))
            tree = [("same", place, "end", 1, 2), ("row", 0), ("none",)]
            self.assertEqual(led(tree, nested(place, "end", int, as_value)), 0)
            self.assertIsNone(led(tree, nested(place, "End", int, as_value)))


class SmallRows(TreesCase):
    def test_no_rows(self):
        self.assertEqual(tree_of([]), [("none",)])
        self.assertIsNone(led(tree_of([]), 0))

    def test_the_rows_of_the_document(self):
        tree = self.check_rows(THREE_ROWS)
        values = [(0, 0), (1, 0), (1, (1, 1)), 0, 1, -LONG, "", "a"]
        self.assertEqual([led(tree, value) for value in values], [0, 0, 0, 2, 2, 2, None, None])

    def test_one_row(self):
        for shape in [ANY, NUMBER, TEXT, PAIR, same(0), same(""), same(-LONG), pair(ANY, ANY), pair(same(""), NUMBER)]:
            self.check_rows([shape], values_standing_for_all([shape]) + ATOMS)
        self.assertEqual(tree_of([ANY]), [("row", 0)])

    def test_every_few_of_some_shapes_in_every_order(self):
        shapes = [ANY, NUMBER, TEXT, PAIR, same(0), same(""), same(1), pair(ANY, ANY), pair(same(0), ANY),
                  pair(ANY, same("")), pair(pair(NUMBER, ANY), ANY), pair(ANY, TEXT)]
        values = values_standing_for_all(shapes)
        for count in (1, 2, 3):
            for rows in itertools.product(shapes, repeat=count):
                self.check_rows(list(rows), values[::7] if count == 3 else values)

    def test_equal_rows(self):
        for shape in [ANY, NUMBER, same("a"), pair(same(0), pair(ANY, same(LONG)))]:
            for count in (2, 3, 43):
                tree = self.check_rows([shape] * count)
                self.assertEqual([node[1] for node in tree if node[0] == "row"], [0])

    def test_rows_that_are_never_come_to(self):
        for rows, come in [
            ([ANY, NUMBER, pair(ANY, same(1))], [0]),
            ([PAIR, pair(ANY, ANY), pair(same(1), ANY), TEXT], [0, 3]),
            ([pair(ANY, ANY), PAIR], [0]),
            ([NUMBER, same(0), same(""), TEXT, same("a")], [0, 2, 3]),
            ([NUMBER, TEXT, PAIR, ANY], [0, 1, 2]),
            ([pair(NUMBER, ANY), pair(TEXT, ANY), pair(PAIR, same(1)), pair(ANY, same(1)), PAIR], [0, 1, 2, 4]),
        ]:
            tree = self.check_rows(rows, values_standing_for_all(rows))
            self.assertEqual(sorted({node[1] for node in tree if node[0] == "row"}), come)

    def test_atoms_of_both_kinds_and_many_figures(self):
        atoms = [0, "0", "", 1, -1, LONG, -LONG, str(LONG), LONG + 1, 10 ** 29, -(10 ** 29), 10 ** 32 - 1, 1 - 10 ** 32,
                 10 ** 40, " ", "  ", SIGNS, "x" * 500, "any", "kind", "none", "row"]
        rows = [same(atom) for atom in atoms]
        others = [2, -2, LONG - 1, "a", SIGNS + " ", "x" * 499, 10 ** 40 + 1, (0, 0), ("", ""), ("any", 0)]
        self.check_rows(rows, atoms + others)
        self.check_rows(rows[::-1] + [NUMBER, PAIR], atoms + others)
        inside = [pair(shape, same("end")) for shape in rows]
        self.check_rows(inside, [(atom, end) for atom in atoms + others for end in ("end", 0, "")])


class ManyRows(TreesCase):
    def test_drawn_rows(self):
        for number, rows in enumerate(drawn_rows()):
            chance = random.Random(number)
            values = [drawn_value(chance, chance.choice(rows), ATOMS) for value in range(200)]
            self.check_rows(rows, values + ATOMS)

    def test_every_value_of_drawn_rows(self):
        held = 0
        for rows in drawn_rows():
            if count_standing_for_all(rows) < 20000:
                self.check_rows(rows, values_standing_for_all(rows))
                held = held + 1
        self.assertGreater(held, 20)

    def test_forty_three_rows_and_some_more(self):
        for count in (42, 43, 44, 60):
            self.check_rows([same(number - 20) for number in range(count)], list(range(-22, 45)) + ["", "1", (1, 1)])
            rows = [chain([same(str(number)), same(number), KINDS[number % 3]]) for number in range(count)] + [PAIR]
            tree = self.check_rows(rows, [(str(number), (number, "")) for number in range(count)])
            self.assertEqual({node[1] for node in tree if node[0] == "row"}, set(range(count + 1)))

    def test_rows_of_which_each_value_fits_one(self):
        for number in range(8):
            rows = split_rows(random.Random(number), 43)
            tree = self.check_rows(rows)
            self.assertNotIn(("none",), tree)
            self.check_rows(rows[:-1])

    def test_a_row_behind_each_row_of_a_chain(self):
        rows = []
        for number in range(21):
            rows.extend([columns(21, {number: NUMBER}), columns(21, {number: TEXT})])
        self.check_rows(rows + [ANY])

    def test_trees_stay_small_where_a_late_place_tells_the_rows_apart(self):
        for count in (10, 20, 42):
            rows = told_apart_late(count)
            tree = self.check_rows(rows)
            self.assertLess(len(tree), 2000)

    def test_trees_stay_small_where_the_first_row_does_not_need_what_tells_the_others_apart(self):
        first = columns(31, {5: NUMBER, 9: NUMBER})
        others = [columns(31, {number: KINDS[number % 3], 30: same(number)}) for number in range(30)]
        self.assertLess(len(self.check_rows([first] + others)), 4000)
        # Asking for the first row's needs alone makes a tree of some 5000 nodes.
        rows = [columns(8, given) for given in (
            {2: BEFORE_NOUGHT, 4: same(1), 5: TEXT},
            {0: TEXT, 2: BEFORE_NOUGHT, 4: same(0)},
            {0: BEFORE_NOUGHT, 1: AFTER_NOUGHT, 3: BEFORE_NOUGHT, 5: BEFORE_NOUGHT, 6: BEFORE_NOUGHT, 7: AFTER_NOUGHT},
            {0: NUMBER, 2: BEFORE_NOUGHT, 4: same(1)},
            {0: AFTER_NOUGHT, 3: AFTER_NOUGHT, 5: AFTER_NOUGHT, 6: AFTER_NOUGHT, 7: BEFORE_NOUGHT})]
        self.assertLess(len(self.check_rows(rows)), 1000)

    def test_trees_stay_small_where_the_leading_rows_count(self):
        # Asking for what most rows need, or in order, makes trees of more than 3000 nodes.
        rows = [columns(8, given) for given in (
            {0: BEFORE_NOUGHT, 1: AFTER_NOUGHT, 3: NUMBER, 6: TEXT},
            {0: same(1), 1: NUMBER, 3: TEXT},
            {0: same(0), 1: TEXT},
            {0: same(1), 1: same(0), 2: same(1), 3: TEXT, 4: same("a"), 6: PAIR},
            {1: BEFORE_NOUGHT, 2: AFTER_NOUGHT, 4: AFTER_NOUGHT, 6: same(1), 7: AFTER_NOUGHT},
            {3: BEFORE_NOUGHT, 5: same("a")},
            {0: BEFORE_NOUGHT, 1: AFTER_NOUGHT, 4: NUMBER, 5: PAIR},
            {0: same(0), 3: same("a"), 5: PAIR, 6: PAIR})]
        self.assertLess(len(self.check_rows(rows)), 1000)

    def test_trees_stay_small_where_many_rows_are_never_come_to(self):
        chance = random.Random(5)
        leading = [pair(pair(ANY, kind), ANY) for kind in KINDS] + [pair(NUMBER, ANY), pair(TEXT, ANY)]
        others = [pair(ANY, columns(8, {column: chance.choice(KINDS) for column in chance.sample(range(8), 3)}))
                  for row in range(38)]
        self.assertLess(len(self.check_rows(leading + others)), 20)


class DeepRows(TreesCase):
    def test_rows_that_differ_far_within(self):
        for depth in (50, 64):
            for rows in deep_rows(depth):
                tree = self.check_rows(rows)
                self.assertLess(len(tree), 4000)

    def test_many_rows_of_deep_chains(self):
        for number in range(2):
            chance = random.Random(number)
            chains = [[chance.choice([0, 1, "", -LONG]) for step in range(50)] for row in range(39)]
            rows = [chain([same(atom) for atom in atoms]) for atoms in chains]
            rows.extend([rows[7], chain([NUMBER] * 50), chain([ANY] * 30), chain([PAIR, ANY])])
            values = []
            for atoms, step in itertools.product(chains, (0, 25, 49)):
                changed = atoms[:step] + ["other"] + atoms[step + 1:]
                values.extend(chain(parts, as_value) for parts in (atoms, changed, [1] * step + atoms[step:]))
            self.check_rows(rows, values)

    def test_both_parts_are_deep(self):
        def bush(depth, leaf):
            return leaf if depth == 0 else pair(bush(depth - 1, leaf), bush(depth - 1, leaf))

        for leaf in (ANY, same(LONG), TEXT):
            self.check_rows([bush(6, leaf), bush(4, NUMBER), bush(2, leaf)])


class NothingIsChanged(TreesCase):
    def test_rows_stay_as_they_were(self):
        for rows in drawn_rows() + [[], THREE_ROWS, told_apart_late(10)]:
            kept = list(rows)
            before = copy.deepcopy(rows)
            first = tree_of(rows)
            self.assertEqual(repr(rows), repr(before))
            self.assertTrue(all(one is two for one, two in zip(rows, kept, strict=True)))
            self.assertEqual(tree_of(rows), first)

    def test_tree_and_value_stay_as_they_were(self):
        for rows in drawn_rows()[:20]:
            tree = tree_of(rows)
            before = copy.deepcopy(tree)
            for node, road in roads_of(tree):
                value = road.value()
                value_before = copy.deepcopy(value)
                led(tree, value)
                self.assertEqual(repr(value), repr(value_before))
            self.assertEqual(repr(tree), repr(before))

    def test_a_tree_that_was_given_is_not_kept(self):
        for rows in ([], THREE_ROWS):
            tree = tree_of(rows)
            before = list(tree)
            tree.clear()
            self.assertEqual(tree_of(rows), before)


if __name__ == "__main__":
    unittest.main()
