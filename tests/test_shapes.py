import copy
import itertools
import unittest

from helping import ANY, LONG, NUMBER, PAIR, SIDES_OF_DEPTH, SIGNS, TEXT, as_value, nested, pair, same
from shapetree.shapes import fits

NUMBERS = [0, 1, -1, 7, -12, LONG, -LONG, LONG + 1, 10 ** 32 - 1, 1 - 10 ** 32, 10 ** 40, -(10 ** 40)]
TEXTS = ["", " ", "  ", "a", "A", "ab", "a ", " a", "0", "-1", str(LONG), "any", "number", "pair", SIGNS, "x" * 500]
PAIRS = [
    (0, 0), (0, ""), ("", 0), ("", ""), (1, (2, 3)), ((1, 2), 3), ((1, "a"), ("b", 2)),
    ("kind", "pair"), ("same", 0), ("any", ("any", "any")), (LONG, -LONG), (SIGNS, SIGNS),
]
VALUES = NUMBERS + TEXTS + PAIRS


class FitsCase(unittest.TestCase):
    def fit(self, shape, value):
        self.assertIs(fits(shape, value), True, (shape, value))

    def unfit(self, shape, value):
        self.assertIs(fits(shape, value), False, (shape, value))


class AnyShape(FitsCase):
    def test_every_value_fits(self):
        for value in VALUES:
            self.fit(ANY, value)


class KindShape(FitsCase):
    def test_number(self):
        for value in NUMBERS:
            self.fit(NUMBER, value)
        for value in TEXTS + PAIRS:
            self.unfit(NUMBER, value)

    def test_text(self):
        for value in TEXTS:
            self.fit(TEXT, value)
        for value in NUMBERS + PAIRS:
            self.unfit(TEXT, value)

    def test_pair(self):
        for value in PAIRS:
            self.fit(PAIR, value)
        for value in NUMBERS + TEXTS:
            self.unfit(PAIR, value)

    def test_a_text_is_a_text_whatever_word_it_is(self):
        for word in ("number", "text", "pair", "any", "same", "kind"):
            self.fit(TEXT, word)
            self.unfit(NUMBER, word)
            self.unfit(PAIR, word)


class SameShape(FitsCase):
    def test_that_atom_alone_fits(self):
        atoms = NUMBERS + TEXTS
        for one, two in itertools.product(range(len(atoms)), repeat=2):
            if one == two:
                self.fit(same(atoms[one]), atoms[two])
            else:
                self.unfit(same(atoms[one]), atoms[two])

    def test_equal_atoms_that_are_other_objects(self):
        self.fit(same(int("9" * 30)), int("9" * 30))
        self.fit(same(int("-" + "9" * 30)), int("-" + "9" * 30))
        self.fit(same("".join(["ab", " cd"])), "".join(["ab ", "cd"]))

    def test_numbers_of_many_figures_that_lie_close(self):
        for figures in (16, 17, 30, 32, 35):
            number = 10 ** figures
            self.fit(same(number), 10 ** figures)
            for other in (number + 1, number - 1, -number):
                self.unfit(same(number), other)
                self.unfit(same(other), number)

    def test_an_atom_of_the_other_kind(self):
        for number in NUMBERS:
            self.unfit(same(number), str(number))
            self.unfit(same(str(number)), number)
        self.unfit(same(0), "")
        self.unfit(same(""), 0)
        self.unfit(same(1), "a")
        self.unfit(same("a"), 1)

    def test_texts_by_each_sign(self):
        for one, two in itertools.product(SIGNS, repeat=2):
            if one == two:
                self.fit(same(one), two)
            else:
                self.unfit(same(one), two)

    def test_no_pair_fits(self):
        for atom in NUMBERS + TEXTS:
            for value in PAIRS + [(atom, atom), (atom, ""), ("", atom)]:
                self.unfit(same(atom), value)

    def test_words_of_shapes_are_plain_texts(self):
        self.fit(same("any"), "any")
        self.fit(same("pair"), "pair")
        self.unfit(same("any"), 0)
        self.unfit(same("number"), 0)
        self.unfit(same("text"), "a")
        self.unfit(same("pair"), (0, 0))


class PairShape(FitsCase):
    def test_both_parts_fit(self):
        self.fit(pair(ANY, ANY), (0, ""))
        self.fit(pair(NUMBER, TEXT), (0, ""))
        self.fit(pair(same(-1), same("")), (-1, ""))
        self.fit(pair(same(1), PAIR), (1, (2, 3)))
        self.fit(pair(PAIR, same(LONG)), (("a", "b"), LONG))
        self.fit(pair(same(-LONG), ANY), (-LONG, ("a", "b")))

    def test_the_first_part_does_not_fit(self):
        self.unfit(pair(NUMBER, TEXT), ("", ""))
        self.unfit(pair(same(1), ANY), (2, 1))
        self.unfit(pair(same(""), ANY), (0, ""))
        self.unfit(pair(PAIR, NUMBER), (1, 1))

    def test_the_second_part_does_not_fit(self):
        self.unfit(pair(NUMBER, TEXT), (0, 0))
        self.unfit(pair(ANY, same(1)), (1, 2))
        self.unfit(pair(ANY, same(0)), (0, ""))
        self.unfit(pair(NUMBER, PAIR), (1, 1))

    def test_neither_part_fits(self):
        self.unfit(pair(NUMBER, TEXT), ("", 0))
        self.unfit(pair(same(1), same(2)), (2, 1))
        self.unfit(pair(PAIR, PAIR), (1, "a"))

    def test_an_atom_instead_of_the_pair(self):
        for value in NUMBERS + TEXTS:
            self.unfit(pair(ANY, ANY), value)
            self.unfit(pair(same(value), same(value)), value)
        # Texts of two signs, which could be taken apart like a pair.
        self.unfit(pair(TEXT, TEXT), "ab")
        self.unfit(pair(same("a"), same("b")), "ab")

    def test_an_atom_instead_of_a_pair_within(self):
        self.unfit(pair(pair(ANY, ANY), ANY), (1, (2, 3)))
        self.unfit(pair(ANY, pair(ANY, ANY)), ((1, 2), 3))
        self.unfit(pair(ANY, pair(TEXT, TEXT)), ("ab", "ab"))

    def test_a_pair_instead_of_an_atom_within(self):
        self.unfit(pair(NUMBER, ANY), ((1, 2), 3))
        self.unfit(pair(ANY, same(1)), (1, (1, 1)))

    def test_values_that_look_like_shapes(self):
        self.fit(pair(same("kind"), same("pair")), ("kind", "pair"))
        self.fit(PAIR, ("kind", "pair"))
        self.unfit(pair(ANY, NUMBER), ("kind", "number"))
        self.unfit(pair(PAIR, ANY), ("any", "any"))


class SmallShapesAllTogether(FitsCase):
    """Every small shape against every small value, by the list of all values that fit it."""

    def test_against_the_values_listed_for_each(self):
        atoms = [0, -1, "", "0"]
        shallow = atoms + list(itertools.product(atoms, repeat=2))
        values = atoms + list(itertools.product(shallow, repeat=2))
        plain = {ANY: set(values), NUMBER: {0, -1}, TEXT: {"", "0"}, PAIR: set(values) - set(atoms)}
        plain.update({same(atom): {atom} for atom in atoms})
        # A part of a value at hand is shallow: no other values need to be listed for a part.
        parts = {shape: fitting & set(shallow) for shape, fitting in plain.items()}
        few = [(one, two) for one in (ANY, TEXT, same(0)) for two in (ANY, NUMBER, same("0"))]
        for one, two in few:
            parts[pair(one, two)] = set(itertools.product(parts[one], parts[two])) & set(shallow)
        listed = dict(plain)
        for one, two in itertools.product(parts, repeat=2):
            listed[pair(one, two)] = set(itertools.product(parts[one], parts[two]))
        for shape, fitting in listed.items():
            for value in values:
                self.assertIs(fits(shape, value), value in fitting, (shape, value))


class DeepPairs(FitsCase):
    def each_depth(self):
        # The last ones lie beyond the bound of fifty, and nothing is refused for it.
        depths = (40, 45, 49, 50, 51, 60, 200)
        return [sides(depth) for depth in depths for sides in SIDES_OF_DEPTH]

    def test_a_value_that_fits(self):
        for sides in self.each_depth():
            shape = nested(sides, same("end"), same, pair)
            self.fit(shape, nested(sides, "end", int, as_value))

    def test_a_value_that_differs_at_the_end(self):
        for sides in self.each_depth():
            shape = nested(sides, same("end"), same, pair)
            for end in ("End", "", 0, len(sides), ("end", "end")):
                self.unfit(shape, nested(sides, end, int, as_value))

    def test_a_value_that_differs_beside_the_road(self):
        for sides in self.each_depth():
            shape = nested(sides, same("end"), same, pair)
            last = len(sides) - 1
            for place in (0, 1, last // 2, last - 1, last):
                for other in (-1, str(place), (place, place)):
                    value = nested(sides, "end", lambda step: other if step == place else step, as_value)
                    self.unfit(shape, value)

    def test_a_value_one_less_or_one_more_deep(self):
        for sides in self.each_depth():
            shape = nested(sides, NUMBER, lambda step: ANY, pair)
            self.fit(shape, nested(sides, 1, int, as_value))
            self.unfit(shape, nested(sides[:-1], 1, int, as_value))
            self.unfit(shape, nested(sides + [0], 1, int, as_value))
            self.unfit(shape, nested(sides + [1], 1, int, as_value))

    def test_kinds_far_within(self):
        for sides in self.each_depth():
            ends = {"number": -LONG, "text": "", "pair": (0, 0)}
            for word, kind in itertools.product(ends, repeat=2):
                shape = nested(sides, ("kind", word), lambda step: TEXT, pair)
                value = nested(sides, ends[kind], str, as_value)
                self.assertIs(fits(shape, value), word == kind)

    def test_a_deep_value_against_shallow_shapes(self):
        for sides in self.each_depth():
            value = nested(sides, 1, int, as_value)
            for shape in (ANY, PAIR, pair(ANY, ANY)):
                self.fit(shape, value)
            for shape in (NUMBER, TEXT, same(1), same("")):
                self.unfit(shape, value)

    def test_a_deep_shape_against_atoms(self):
        for sides in self.each_depth():
            shape = nested(sides, ANY, lambda step: ANY, pair)
            for value in (0, "", "ab"):
                self.unfit(shape, value)


class NothingIsChanged(FitsCase):
    def test_shape_and_value_stay_as_they_were(self):
        shapes = [ANY, NUMBER, TEXT, PAIR, same(0), same(LONG), same(""), pair(ANY, NUMBER),
                  pair(pair(TEXT, same(2)), ANY), pair(same(1), pair(same(2), same(3)))]
        for shape, value in itertools.product(shapes, VALUES):
            shape_before = copy.deepcopy(shape)
            value_before = copy.deepcopy(value)
            first = fits(shape, value)
            self.assertEqual(repr(shape), repr(shape_before))
            self.assertEqual(repr(value), repr(value_before))
            self.assertIs(fits(shape, value), first)


if __name__ == "__main__":
    unittest.main()
