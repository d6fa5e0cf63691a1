import unittest

from helping import ANY, NUMBER, PAIR, pair, same
from shapetree.roads import (
    needs_of, question_ahead, questions_behind, row_after, row_on_road, rows_after, rows_after_not, up_to_settled)


def kind(*place):
    return ("kind", place)


def atom(*place):
    return ("same", place)


class Needs(unittest.TestCase):
    def test_each_shape(self):
        self.assertEqual(needs_of(ANY), {})
        self.assertEqual(needs_of(NUMBER), {kind(): "number"})
        self.assertEqual(needs_of(same(0)), {kind(): "number", atom(): 0})
        self.assertEqual(needs_of(same("")), {kind(): "text", atom(): ""})
        self.assertEqual(needs_of(pair(ANY, ANY)), needs_of(PAIR))

    def test_parts_in_the_order_of_their_places(self):
        needs = needs_of(pair(pair(ANY, same("a")), PAIR))
        self.assertEqual(list(needs.items()), [
            (kind(), "pair"), (kind(0), "pair"), (kind(0, 1), "text"), (atom(0, 1), "a"), (kind(1), "pair")])


class Questions(unittest.TestCase):
    def test_ahead(self):
        self.assertIsNone(question_ahead(kind()))
        self.assertEqual(question_ahead(kind(0)), kind())
        self.assertEqual(question_ahead(kind(1, 0, 1)), kind(1, 0))
        self.assertEqual(question_ahead(atom()), kind())
        self.assertEqual(question_ahead(atom(1, 0)), kind(1, 0))

    def test_behind(self):
        self.assertEqual(questions_behind(kind(), "pair"), [kind(0), kind(1)])
        self.assertEqual(questions_behind(kind(1), "pair"), [kind(1, 0), kind(1, 1)])
        self.assertEqual(questions_behind(kind(1), "number"), [atom(1)])
        self.assertEqual(questions_behind(kind(), "text"), [atom()])
        for answer in (0, "", "pair", "number"):
            self.assertEqual(questions_behind(atom(1), answer), [])


class RowsOnARoad(unittest.TestCase):
    def test_what_may_be_asked(self):
        self.assertEqual(row_on_road(3, needs_of(same(5)))[2], [kind()])
        self.assertEqual(row_on_road(3, needs_of(pair(same(5), NUMBER)))[2], [kind()])
        self.assertEqual(row_on_road(3, {})[2], [])
        # Told ahead: pairs at () and (1,), a number at (0,).
        left = {atom(0): 5, kind(1, 0): "pair", kind(1, 0, 1): "text", kind(1, 1): "text", atom(1, 1): ""}
        self.assertEqual(row_on_road(3, left), (3, left, [atom(0), kind(1, 0), kind(1, 1)]))

    def test_a_row_after_an_answer(self):
        start = row_on_road(4, needs_of(pair(pair(NUMBER, ANY), same("a"))))
        row = row_after(start, kind(), "pair")
        self.assertEqual((row[0], row[2]), (4, [kind(0), kind(1)]))
        row = row_after(row, kind(0), "pair")
        self.assertEqual(row[2], [kind(0, 0), kind(1)])
        row = row_after(row, kind(1), "text")
        self.assertEqual(row[1:], ({kind(0, 0): "number", atom(1): "a"}, [kind(0, 0), atom(1)]))
        row = row_after(row_after(row, kind(0, 0), "number"), atom(1), "a")
        self.assertEqual(row, (4, {}, []))
        self.assertEqual(start, row_on_road(4, needs_of(pair(pair(NUMBER, ANY), same("a")))))

    def test_rows_after_an_answer(self):
        rows = [row_on_road(number, needs_of(shape)) for number, shape in enumerate(
            [same(0), pair(ANY, NUMBER), same("a"), NUMBER, same(1), ANY])]
        self.assertEqual([row[0] for row in rows_after(rows, kind(), "number")], [0, 3])
        self.assertEqual([row[0] for row in rows_after(rows, kind(), "text")], [2, 5])
        self.assertEqual([row[0] for row in rows_after(rows, kind(), "pair")], [1, 5])
        numbers = rows_after(rows[:3] + rows[4:], kind(), "number")
        self.assertEqual([row[0] for row in rows_after(numbers, atom(), 0)], [0])
        self.assertEqual([row[0] for row in rows_after(numbers, atom(), 1)], [4])
        self.assertEqual([row[0] for row in rows_after_not(numbers, atom(), 0)], [4, 5])

    def test_none_behind_a_settled_row(self):
        open_row = row_on_road(0, needs_of(NUMBER))
        settled = row_on_road(1, {})
        self.assertEqual(up_to_settled([]), [])
        self.assertEqual(up_to_settled([open_row, open_row]), [open_row, open_row])
        self.assertEqual(up_to_settled([open_row, settled, open_row, settled]), [open_row, settled])


if __name__ == "__main__":
    unittest.main()
