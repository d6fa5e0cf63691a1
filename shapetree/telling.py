"""What is told of rows: by which values each of them is come to or where its values lead, and what fits none."""

from shapetree.roads import needs_of, row_on_road, rows_after, up_to_settled
from shapetree.shapes import KINDS


# To rows all atoms of one kind that they don't ask for are alike: one number and one text stand for these.
def strange_atoms(rows_needs):
    known = {}
    for needs in rows_needs:
        for question in needs:
            if question[0] == "same":
                known[needs[question]] = True
    number = 0
    while number in known:
        number = number + 1
    text = ""
    tried = 0
    while text in known:
        text = str(tried)
        tried = tried + 1
    return {"number": number, "text": text}


# A value that meets the needs; where they don't name an atom, a strange one stands.
def value_meeting(needs, strange):
    built = {}
    deepest_first = sorted(needs, key=lambda question: len(question[1]), reverse=True)
    for question in deepest_first:
        place = question[1]
        answer = needs[question]
        if question[0] == "same":
            built[place] = answer
        elif answer == "pair":
            one = built.get(place + (0,), strange["number"])
            two = built.get(place + (1,), strange["number"])
            built[place] = (one, two)
        else:
            built.setdefault(place, strange[answer])
    return built.get((), strange["number"])


# What is left of the needs where others are met; None where no value meets both.
def needs_beside(needs, met):
    left = {}
    for question in needs:
        if question not in met:
            left[question] = needs[question]
        elif met[question] != needs[question]:
            return None
    return left


def needs_of_both(one, two):
    more = needs_beside(two, one)
    if more is None:
        return None
    both = dict(one)
    both.update(more)
    return both


# A row that asks for an atom beyond those that are met is fit by no value of value_meeting.
def may_be_fit(left):
    return left is not None and not any([question[0] == "same" for question in left])


def rows_beside(rows_needs, met):
    left = [needs_beside(needs, met) for needs in rows_needs]
    return up_to_settled([row_on_road(number, left[number]) for number in range(len(left)) if may_be_fit(left[number])])


# Each kind that a row still needs leaves it a third of the values: so much each row takes out of them all.
def weights_of(rows):
    longest = max([len(row[1]) for row in rows])
    powers = [1]
    while len(powers) <= longest:
        powers.append(powers[len(powers) - 1] * 3)
    return [powers[longest - len(row[1])] for row in rows]


def weightiest_question(rows):
    weights = weights_of(rows)
    sums = {}
    for index in range(len(rows)):
        for question in rows[index][2]:
            sums[question] = sums.get(question, 0) + weights[index]
    return max(sums, key=lambda question: sums[question])


# The kind that leaves the least to the rows comes first.
def words_by_weight(rows, question):
    weights = weights_of(rows)
    sums = {"number": 0, "text": 0, "pair": 0}
    for index in range(len(rows)):
        needs = rows[index][1]
        if question in needs:
            sums[needs[question]] = sums[needs[question]] + weights[index]
    return sorted(KINDS, key=lambda word: sums[word])


# A tuple of two: needs that lead past all the rows, or None; and then the numbers of some rows that together let
# nothing past, as a dict of True. Where none of these rows needs the answer, no other answer leads past them.
# The calls within calls are no more than the rows, since each leaves a row behind: a kind that no row needs comes
# first, and where it leads to no way past, no other kind is tried.
def search_past(rows):
    if not rows:
        return ({}, {})
    last = rows[len(rows) - 1]
    if not last[1]:
        return (None, {last[0]: True})
    question = weightiest_question(rows)
    in_the_way = {}
    for word in words_by_weight(rows, question):
        found = search_past(rows_after(rows, question, word))
        if found[0] is not None:
            found[0][question] = word
            return found
        if not any([question in row[1] for row in rows if row[0] in found[1]]):
            return found
        in_the_way.update(found[1])
    return (None, in_the_way)


# A value that meets the needs and fits none of the rows, or None.
def value_past(needs, rows_needs, strange):
    found = search_past(rows_beside(rows_needs, needs))
    if found[0] is None:
        return None
    return value_meeting(needs_of_both(needs, found[0]), strange)


def others_come_to(rows_needs, number, strange):
    others = []
    for other in range(number):
        both = needs_of_both(rows_needs[number], rows_needs[other])
        if both is not None:
            value = value_past(both, rows_needs[:other], strange)
            if value is not None:
                others.append((other, value))
    return others


def told_of_row(rows_needs, number, strange):
    value = value_past(rows_needs[number], rows_needs[:number], strange)
    if value is None:
        return ("never", others_come_to(rows_needs, number, strange))
    return ("come", value)


def told(rows):
    rows_needs = [needs_of(row) for row in rows]
    strange = strange_atoms(rows_needs)
    return [told_of_row(rows_needs, number, strange) for number in range(len(rows_needs))]


def unfit(rows):
    rows_needs = [needs_of(row) for row in rows]
    value = value_past({}, rows_needs, strange_atoms(rows_needs))
    return [] if value is None else [value]
