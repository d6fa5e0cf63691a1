"""What rows need of a value, question by question, and what is left of them as answers are told on a road.

A question is ("kind", place) or ("same", place): which kind, or which atom, stands at that place. The needs of a
row are a dict that holds, for each question that matters to the row, the one answer with which a value fits it.
A row on a road is a tuple of its number, the needs that are left of it, and those of its questions that may be
asked by now. Rows on a road are a list of these: of the rows alone that what has been told does not rule out, and
of none behind a row of which no needs are left, since such a row takes every value that comes so far.
"""

from shapetree.errors import BadShape
from shapetree.shapes import KINDS, kind_of


# The parts of a pair are held one by one in needs_of.
def is_shape_outside(shape):
    if not isinstance(shape, tuple) or len(shape) == 0:
        return False
    word = shape[0]
    if word == "kind":
        return len(shape) == 2 and shape[1] in KINDS
    if word == "same":
        return len(shape) == 2 and isinstance(shape[1], (int, str))
    if word == "pair":
        return len(shape) == 3
    return word == "any" and len(shape) == 1


# The parts wait in a list and not in calls within calls, so that a depth beyond the bound does no harm.
def needs_of(shape):
    needs = {}
    waiting = [((), shape)]
    while waiting:
        held = waiting.pop()
        place = held[0]
        asked = held[1]
        if not is_shape_outside(asked):
            raise BadShape("a row is no shape, or has within it what is none")
        if asked[0] == "kind":
            needs[("kind", place)] = asked[1]
        if asked[0] == "same":
            needs[("kind", place)] = kind_of(asked[1])
            needs[("same", place)] = asked[1]
        if asked[0] == "pair":
            needs[("kind", place)] = "pair"
            waiting.append((place + (1,), asked[2]))
            waiting.append((place + (0,), asked[1]))
    return needs


# The question that must have been answered before this one may be asked.
def question_ahead(question):
    place = question[1]
    if question[0] == "same":
        return ("kind", place)
    return ("kind", place[:-1]) if place else None


# The questions that may be asked once this one has been answered so.
def questions_behind(question, answer):
    place = question[1]
    if question[0] == "same":
        return []
    if answer == "pair":
        return [("kind", place + (0,)), ("kind", place + (1,))]
    return [("same", place)]


# The needs are those left where something has been told: what they don't hold any more has been answered.
def row_on_road(number, needs):
    return (number, needs, [question for question in needs if question_ahead(question) not in needs])


# The new questions stand where the old one stood, so that they stay in the order of their places.
def row_after(row, question, answer):
    needs = dict(row[1])
    needs.pop(question)
    index = row[2].index(question)
    behind = [asked for asked in questions_behind(question, answer) if asked in needs]
    return (row[0], needs, row[2][:index] + behind + row[2][index + 1:])


def up_to_settled(rows):
    kept = []
    for row in rows:
        kept.append(row)
        if not row[1]:
            return kept
    return kept


def rows_after(rows, question, answer):
    kept = []
    for row in rows:
        if question not in row[1]:
            kept.append(row)
        elif row[1][question] == answer:
            kept.append(row_after(row, question, answer))
    return up_to_settled(kept)


def rows_after_not(rows, question, answer):
    return [row for row in rows if question not in row[1] or row[1][question] != answer]
