import copy
import unittest

from helping import ANY, NUMBER, PAIR, SIDES_OF_DEPTH, TEXT, nested, pair, same
from shapetree.errors import BadShape, ShapeError
from shapetree.telling import told, unfit
from shapetree.trees import tree_of

ANOTHER_WORD = [
    ("",), ("Any",), (" any",), ("any ",), ("all",), ("number",), ("text",), ("none",), ("row", 0), ("or", ANY, ANY),
    ("kinds", "number"), ("atom", 1), ("pairs", ANY, ANY), ("PAIR", ANY, ANY), ("not", ANY),
]
ANOTHER_KIND = [
    ("kind", word) for word in ("", "any", "same", "kind", "Number", "numbers", "number ", "int", "texts", "atom", "0")
]
# The document names the two above; a tuple that is made in some other way like none of the shapes is refused too.
OTHERWISE_NONE = [
    (), (0,), (1, 2), (None,), ("any", "any"), ("any", 0), ("kind",), ("kind", 0), ("kind", "number", "text"),
    ("kind", ANY), ("same",), ("same", 1, 2), ("same", (1, 2)), ("same", ANY), ("pair",), ("pair", ANY),
    ("pair", ANY, ANY, ANY), ("pair", 1, ANY), ("pair", ANY, "any"), ("pair", ANY, None), (ANY, ANY),
]
NO_SHAPES = ANOTHER_WORD + ANOTHER_KIND + OTHERWISE_NONE


class Refusals(unittest.TestCase):
    def refused(self, rows):
        before = copy.deepcopy(rows)
        for function in (tree_of, told, unfit):
            for name in (BadShape, ShapeError, ValueError):
                with self.assertRaises(name) as taken:
                    function(rows)
                self.assertIs(type(taken.exception), BadShape)
            self.assertEqual(rows, before)

    def taken(self, rows):
        self.assertEqual(type(tree_of(rows)), list)
        self.assertEqual(len(told(rows)), len(rows))
        self.assertLessEqual(len(unfit(rows)), 1)

    def test_a_row(self):
        for shape in NO_SHAPES:
            self.refused([shape])

    def test_at_each_place_among_the_rows(self):
        good = [NUMBER, same(""), pair(ANY, TEXT), PAIR, ANY]
        for shape in NO_SHAPES:
            for index in range(len(good) + 1):
                self.refused(good[:index] + [shape] + good[index:])

    def test_behind_rows_that_take_every_value(self):
        for shape in NO_SHAPES:
            self.refused([ANY, shape])
            self.refused([ANY, pair(NUMBER, shape)])
            self.refused([NUMBER, TEXT, PAIR, shape])
            self.refused([pair(ANY, ANY), ANY, ANY, pair(ANY, pair(shape, ANY))])

    def test_behind_many_rows(self):
        for count in (42, 43, 60):
            for shape in (ANOTHER_WORD[0], ANOTHER_KIND[0]):
                self.refused([same(number) for number in range(count)] + [shape])
                self.refused([same(0)] * count + [pair(same(0), pair(shape, ANY))])

    def test_within_pairs(self):
        for shape in NO_SHAPES:
            for good in (ANY, NUMBER, same("kind"), pair(TEXT, ANY)):
                self.refused([pair(shape, good)])
                self.refused([pair(good, shape)])
                self.refused([pair(pair(good, shape), good), good])
                self.refused([good, pair(good, pair(shape, good))])
                self.refused([pair(shape, shape)])

    def test_deep_within_pairs(self):
        for shape in (ANOTHER_WORD[0], ANOTHER_WORD[-1], ANOTHER_KIND[0], ANOTHER_KIND[-1], OTHERWISE_NONE[0]):
            for depth in (3, 10, 49, 50, 51, 70, 150):
                for sides in SIDES_OF_DEPTH:
                    deep = nested(sides(depth), shape, lambda step: ANY, pair)
                    self.refused([deep])
                    self.refused([PAIR, NUMBER, ANY, deep])

    def test_beside_a_part_that_no_value_comes_to(self):
        # No value fits both rows' first parts: that the second row is bad is seen nonetheless.
        self.refused([pair(NUMBER, ANY), pair(TEXT, ("kind", "thing"))])
        self.refused([pair(("kind", "thing"), ANY), pair(TEXT, ANY)])

    def test_several(self):
        self.refused([("one",), ("two",)])
        self.refused([NUMBER, ("one",), ANY, ("kind", "two")])

    def test_atoms_and_values_that_look_like_no_shapes(self):
        for atom in ("", "Any", "kind", "numbers", "any", "thing", "pair", 0, -1):
            self.taken([same(atom)])
            self.taken([pair(same(atom), pair(ANY, same(atom))), same(atom), ANY])

    def test_shapes_beyond_the_bounds(self):
        self.taken([])
        self.taken([same(10 ** 50), same(-(10 ** 50)), same("x" * 2000)])
        self.taken([same(number) for number in range(80)])
        for sides in SIDES_OF_DEPTH:
            self.taken([nested(sides(90), same(1), lambda step: ANY, pair), nested(sides(50), PAIR, same, pair)])


if __name__ == "__main__":
    unittest.main()
