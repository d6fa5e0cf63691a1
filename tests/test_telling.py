import copy
import itertools
import random
import unittest

from helping import (
    ANY, KINDS, LONG, NUMBER, PAIR, SIGNS, TEXT, RowsCase, chain, columns, compatible, count_standing_for_all,
    deep_rows, drawn_rows, drawn_shape, first_fit, leaves_with, pair, roads_of, same, split_rows, told_apart_late,
    values_standing_for_all)
from shapetree.shapes import fits
from shapetree.telling import told, unfit
from shapetree.trees import tree_of

THREE_ROWS = [PAIR, pair(same(1), ANY), NUMBER]

# What is no chain of four.
NO_CHAIN = [chain([ANY] * count + [kind]) for count in range(3) for kind in (NUMBER, TEXT)]


def rows_but_for(chance, spared):
    """Rows that lap over one another, fit by every value but the chains of these four kinds."""
    left = [kinds for kinds in itertools.product(KINDS, repeat=4) if kinds != spared]
    rows = []
    while left:
        kinds = chance.choice(left)
        asked = chance.sample(range(4), chance.choice([2, 2, 3]))
        if any(kinds[column] != spared[column] for column in asked):
            rows.append(columns(4, {column: kinds[column] for column in asked}))
            left = [other for other in left if any(other[column] != kinds[column] for column in asked)]
    return rows


def others_by_values(rows, values):
    """For each row None where one of the values leads to it, else the numbers of the rows to which its values lead."""
    leads = [(first_fit(rows, value), value) for value in values]
    come = {number for number, value in leads}
    return [None if row in come else sorted({number for number, value in leads if fits(rows[row], value)})
            for row in range(len(rows))]


class TellingCase(RowsCase):
    def check_all(self, rows, others, is_some_unfit):
        self.check_told(rows, told(rows), others)
        self.check_unfit(rows, unfit(rows), is_some_unfit)

    def check_by_values(self, rows, values=None):
        values = values_standing_for_all(rows) if values is None else values
        is_some_unfit = any(first_fit(rows, value) is None for value in values)
        self.check_all(rows, others_by_values(rows, values), is_some_unfit)

    def check_by_tree(self, rows):
        """The roads of a tree for the rows tell the same: some value takes each of them."""
        tree = tree_of(rows)
        self.check_tree(tree, rows)
        ends = [(node[1], road) for node, road in roads_of(tree) if node[0] == "row"]
        come = {number for number, road in ends}
        others = [None if row in come else sorted({number for number, road in ends if not road.rules_out(rows[row])})
                  for row in range(len(rows))]
        self.check_all(rows, others, ("none",) in tree)


class SmallRows(TellingCase):
    def test_the_example_of_the_document(self):
        self.assertEqual(told(THREE_ROWS), [("come", (0, 0)), ("never", [(0, (1, 0))]), ("come", 0)])
        self.assertEqual(unfit(THREE_ROWS), [""])
        self.check_all(THREE_ROWS, [None, [0], None], True)

    def test_no_rows(self):
        self.assertEqual(told([]), [])
        self.check_unfit([], unfit([]), True)

    def test_one_row(self):
        for shape in [NUMBER, TEXT, PAIR, same(0), same(""), same(LONG), same(-LONG), pair(ANY, ANY),
                      pair(same(0), TEXT), pair(pair(ANY, same("")), NUMBER)]:
            self.check_all([shape], [None], True)
        self.check_all([ANY], [None], False)

    def test_rows_that_are_never_come_to(self):
        for rows, others in [
            ([ANY, NUMBER, pair(ANY, same(1)), ANY], [None, [0], [0], [0]]),
            ([pair(ANY, ANY), PAIR], [None, [0]]),
            ([PAIR, pair(ANY, ANY)], [None, [0]]),
            ([NUMBER, TEXT, PAIR, ANY], [None, None, None, [0, 1, 2]]),
            ([same(0), same(1), NUMBER, same(0), NUMBER, same(2)], [None, None, None, [0], [0, 1, 2], [2]]),
            ([pair(NUMBER, ANY), pair(TEXT, ANY), pair(PAIR, ANY), PAIR, pair(ANY, same(3)), pair(TEXT, TEXT), ANY],
             [None, None, None, [0, 1, 2], [0, 1, 2], [1], None]),
            ([pair(NUMBER, ANY), pair(ANY, NUMBER), pair(NUMBER, NUMBER)], [None, None, [0]]),
            ([pair(NUMBER, ANY), pair(ANY, NUMBER), pair(ANY, same(0)), PAIR], [None, None, [0, 1], None]),
            # A row that is never come to is not among the others, though values fit it.
            ([NUMBER, same(5), same(5), PAIR, TEXT, ANY], [None, [0], [0], None, None, [0, 3, 4]]),
        ]:
            self.check_told(rows, told(rows), others)

    def test_whether_some_value_fits_none(self):
        for rows, is_some in [
            ([NUMBER, TEXT], True),
            ([NUMBER, TEXT, PAIR], False),
            ([NUMBER, TEXT, pair(ANY, ANY)], False),
            ([NUMBER, TEXT, pair(NUMBER, ANY), pair(TEXT, ANY)], True),
            ([NUMBER, TEXT, pair(NUMBER, ANY), pair(TEXT, ANY), pair(PAIR, ANY)], False),
            ([NUMBER, TEXT, pair(NUMBER, ANY), pair(ANY, TEXT)], True),
            ([PAIR, TEXT] + [same(number) for number in range(-20, 20)], True),
            ([PAIR, NUMBER] + [same(str(number)) for number in range(39)] + [same("")], True),
            ([pair(one, two) for one in KINDS for two in KINDS] + [NUMBER, TEXT], False),
            ([pair(one, two) for one in KINDS for two in KINDS if (one, two) != (TEXT, PAIR)] + [NUMBER, TEXT], True),
        ]:
            self.check_unfit(rows, unfit(rows), is_some)
            self.check_unfit(rows[::-1], unfit(rows[::-1]), is_some)

    def test_every_few_of_some_shapes_in_every_order(self):
        shapes = [ANY, NUMBER, TEXT, PAIR, same(0), same(""), pair(ANY, ANY), pair(same(0), ANY),
                  pair(NUMBER, ANY), pair(ANY, same("")), pair(PAIR, ANY), pair(TEXT, ANY)]
        values = values_standing_for_all(shapes)
        for count in (1, 2, 3):
            for rows in itertools.product(shapes, repeat=count):
                self.check_by_values(list(rows), values)

    def test_atoms_that_could_stand_for_all_others(self):
        atoms = [0, 1, -1, 2, 3, "", "a", "0", "1", "2", " ", LONG, -LONG, 10 ** 32 - 1, 10 ** 40, SIGNS, "x" * 300]
        for count in range(len(atoms) + 1):
            rows = [same(atom) for atom in atoms[:count]]
            self.check_all(rows, [None] * count, True)
            self.check_all(rows + [NUMBER, TEXT], [None] * (count + 2), True)
            self.check_all(rows + [PAIR, NUMBER, TEXT], [None] * (count + 3), False)
            inside = [pair(pair(shape, ANY), shape) for shape in rows] + [pair(pair(NUMBER, TEXT), TEXT)]
            self.check_all(inside, [None] * (count + 1), True)


class ManyRows(TellingCase):
    def test_drawn_rows_by_every_value(self):
        held = 0
        for rows in drawn_rows():
            if count_standing_for_all(rows) < 20000:
                self.check_by_values(rows)
                held = held + 1
        self.assertGreater(held, 20)

    def test_drawn_rows_by_their_trees(self):
        for rows in drawn_rows():
            self.check_by_tree(rows)

    def test_rows_of_kinds_by_every_value(self):
        for number in range(40):
            chance = random.Random(number)
            leaves = leaves_with(3, 2, [0] if number % 2 else [])
            count = [4, 8, 20, 43][number % 4]
            rows = [pair(drawn_shape(chance, 1, leaves), drawn_shape(chance, 1, leaves)) for row in range(count)]
            self.check_by_values([NUMBER] + rows + [TEXT])

    def test_rows_of_which_each_value_fits_one(self):
        for number in range(12):
            chance = random.Random(number)
            rows = split_rows(chance, 43)
            self.check_all(rows, [None] * 43, False)
            # Each row behind them is never come to, and its values lead to all those that it shares a value with.
            for shape in [ANY, chance.choice(rows), chance.choice(rows), pair(ANY, NUMBER), pair(same(1), ANY),
                          pair(pair(ANY, TEXT), same("")), drawn_shape(chance, 4, leaves_with(3, 1, [0, "a"]))]:
                shared = [row for row in range(43) if compatible(rows[row], shape)]
                self.check_all(rows + [shape], [None] * 43 + [shared], False)

    def test_one_such_row_left_out(self):
        for number in range(12):
            rows = split_rows(random.Random(number), 43)
            for left_out in range(0, 43, 6):
                fewer = rows[:left_out] + rows[left_out + 1:]
                self.check_all(fewer, [None] * 42, True)
                self.assertTrue(fits(rows[left_out], unfit(fewer)[0]))
                self.check_all(fewer + [ANY], [None] * 43, False)

    def test_one_way_past_rows_that_lap_over_one_another(self):
        for number in range(150):
            chance = random.Random(number)
            spared = tuple(chance.choice(KINDS) for column in range(4))
            rows = NO_CHAIN + rows_but_for(chance, spared)
            self.check_unfit(rows, unfit(rows), True)
            self.assertTrue(fits(chain(list(spared)), unfit(rows)[0]))
            self.assertEqual(told(rows + [ANY])[-1][0], "come")
            self.assertEqual(unfit(rows + [chain(list(spared))]), [])
            covered = rows + [chain(list(spared)), ANY]
            numbers = [entry[0] for entry in told(covered)[-1][1]]
            self.assertEqual(numbers, [row for row, one in enumerate(told(covered)) if one[0] == "come"])

    def test_rows_beside_those_that_let_nothing_past(self):
        # The heavier rows ask for other places, and by themselves would let many values past.
        cover = [columns(11, {0: one, 1: two, 2: three}) for one in KINDS for two in KINDS for three in KINDS]
        beside = [columns(11, {number: KINDS[number % 3], number + 1: KINDS[turn]})
                  for number in range(3, 9) for turn in range(2)]
        rows = cover[:13] + beside + cover[13:] + [chain([ANY] * 11)]
        self.check_all(rows, [None] * 39 + [list(range(39))], True)
        self.check_all(rows + [ANY], [None] * 39 + [list(range(39)), None], False)

    def test_rows_with_a_tree_beyond_all_bounds(self):
        for count in (43, 50):
            rows = [columns(count, {number: same(number)}) for number in range(count)]
            self.check_all(rows, [None] * count, True)
            rows = [columns(count, {number: KINDS[number % 3]}) for number in range(count)]
            self.check_all(rows, [None] * count, True)

    def test_three_rows_of_each_place(self):
        rows = [columns(14, {number: kind}) for number in range(14) for kind in KINDS]
        self.check_all(rows, [None] * 3 + [[0, 1, 2]] * 39, True)
        self.check_all(rows[::-1], [None] * 3 + [[0, 1, 2]] * 39, True)
        # All rows for numbers, all for texts, and then those for pairs, of which only the first is come to.
        late = [[row for row in range(28) if row % 14 != place] + [28] for place in range(1, 14)]
        self.check_all(rows[::3] + rows[1::3] + rows[2::3], [None] * 29 + late, True)

    def test_rows_told_apart_late(self):
        rows = told_apart_late(42)
        self.check_all(rows, [None] * 42, True)
        self.check_by_tree(told_apart_late(12) + [columns(13, {12: same(3)}), columns(13, {12: NUMBER, 6: TEXT})])


class DeepRows(TellingCase):
    def test_rows_that_differ_far_within(self):
        for depth in (50, 64):
            for rows in deep_rows(depth):
                self.check_by_tree(rows)
                self.check_by_tree([rows[-1]] + rows[2:])

    def test_many_rows_of_deep_chains(self):
        rows = [chain([KINDS[(row + step) % 3] if step % 7 == row % 7 else ANY for step in range(50)])
                for row in range(43)]
        seen = told(rows)
        for number, one in enumerate(seen):
            self.check_one_told(rows, number, one)
        self.check_unfit(rows, unfit(rows), True)


class NothingIsChanged(TellingCase):
    def test_rows_stay_as_they_were(self):
        for rows in drawn_rows() + [[], THREE_ROWS, told_apart_late(10)]:
            for tell in (told, unfit):
                kept = list(rows)
                before = copy.deepcopy(rows)
                first = tell(rows)
                self.assertEqual(repr(rows), repr(before))
                self.assertTrue(all(one is two for one, two in zip(rows, kept, strict=True)))
                self.assertEqual(tell(rows), first)

    def test_what_was_told_is_not_kept(self):
        before = copy.deepcopy(told(THREE_ROWS))
        given = told(THREE_ROWS)
        given[1][1].clear()
        given.clear()
        unfit(THREE_ROWS).clear()
        self.assertEqual(told(THREE_ROWS), before)
        self.assertEqual(unfit(THREE_ROWS), [""])


if __name__ == "__main__":
    unittest.main()
