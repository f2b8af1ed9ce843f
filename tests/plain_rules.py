"""The document's words written out as plainly as can be, for the program's answers to be held against.

A formula is here a place (a letter), or a tuple (sign, formula, formula). None of this reads a text:
texts are written from formulas, so a fault in the program's reading can't hide in here too.

At the end formulas are grown by the rules, for tests with more letters than can be gone through whole.
"""

import itertools

PLAIN = "abcdefgh"
TURNED = "ABCDEFGH"


def as_bytes(text):
    return list(text.encode("latin-1"))


def is_text(text):
    """Whether a string is a text: brackets are folded into one letter from the inside out."""
    if sum(sign in PLAIN + TURNED for sign in text) > 16 or depth(text) > 16:
        return False
    folded = "".join("F" if sign in PLAIN + TURNED else sign for sign in text)
    before = None
    while before != folded:
        before = folded
        folded = folded.replace("(F*F)", "F").replace("(F|F)", "F")
    return all(formula == "F" for formula in folded.split(","))


def depth(text):
    deep = [0]
    for sign in text:
        deep.append(deep[-1] + (sign == "(") - (sign == ")"))
    return max(deep)


def letters_of(text):
    return "".join(sign for sign in text if sign in PLAIN + TURNED)


def are_links(letters, numbers):
    """Whether numbers are links of these letters, condition by condition."""
    return len(numbers) == len(letters) and all(
        other in range(len(letters))
        and other != place
        and numbers[other] == place
        and letters[other].lower() == letters[place].lower()
        and letters[other].islower() != letters[place].islower()
        for place, other in enumerate(numbers)
    )


def all_links(letters):
    """Every row of links of these letters."""

    def fit(one, other):
        return letters[one] != letters[other] and letters[one].lower() == letters[other].lower()

    return list(all_pairings(list(range(len(letters))), fit))


def all_pairings(places, fit=lambda one, other: True):
    """Every way to link each of the places 0, 1, .. with one other that fits."""

    def pairs(left):
        if not left:
            yield []
        for other in left[1:]:
            if fit(left[0], other):
                rest = [place for place in left if place not in (left[0], other)]
                for further in pairs(rest):
                    yield [(left[0], other)] + further

    for pairing in pairs(places):
        row = [0] * len(places)
        for one, other in pairing:
            row[one] = other
            row[other] = one
        yield row


def letters_for(pairing):
    """Letters of which the pairing is the only row of links: a pair, a letter."""
    letters = [""] * len(pairing)
    pairs = [(one, other) for one, other in enumerate(pairing) if one < other]
    for number, (one, other) in enumerate(pairs):
        letters[one] = PLAIN[number]
        letters[other] = TURNED[number]
    return "".join(letters)


def letters_alike(dice, pairing, signs):
    """Letters of which the pairing is one of several rows of links: each pair gets one of the signs."""
    letters = [""] * len(pairing)
    for one, other in enumerate(pairing):
        if one < other:
            sign = dice.choice(signs)
            letters[one], letters[other] = dice.sample([sign, sign.upper()], 2)
    return "".join(letters)


def all_formulas(start, count):
    """Every formula with count letters, the first of them at the place start."""
    if count == 1:
        yield start
    for left in range(1, count):
        for first in all_formulas(start, left):
            for second in all_formulas(start + left, count - left):
                yield ("*", first, second)
                yield ("|", first, second)


def all_rows(start, end):
    """Every row of formulas with the places from start up to end."""
    if start == end:
        yield []
    for count in range(1, end - start + 1):
        for formula in all_formulas(start, count):
            for rest in all_rows(start + count, end):
                yield [formula] + rest


def write(formulas, letters):
    def write_one(formula):
        if isinstance(formula, int):
            return letters[formula]
        return "(" + write_one(formula[1]) + formula[0] + write_one(formula[2]) + ")"

    return ",".join(write_one(formula) for formula in formulas)


def has_proof(formulas, links):
    """The three rules under "Proofs", each tried in every way."""
    known = {}

    def proved(row):
        key = frozenset(row)
        if key not in known:
            known[key] = by_letters(row) or any(by_rule(row, formula) for formula in row)
        return known[key]

    def by_letters(row):
        return len(row) == 2 and all(isinstance(formula, int) for formula in row) and links[row[0]] == row[1]

    def by_rule(row, formula):
        if isinstance(formula, int):
            return False
        sign, first, second = formula
        others = [other for other in row if other != formula]
        if sign == "|":
            return proved([first, second] + others)
        return any(
            proved([first] + some) and proved([second] + [other for other in others if other not in some])
            for some in all_selections(others)
        )

    return proved(list(formulas))


def all_proofs(formulas, letters):
    """Every row of links that's a proof."""
    return [links for links in all_links(letters) if has_proof(formulas, links)]


def all_selections(row):
    for count in range(len(row) + 1):
        for selection in itertools.combinations(row, count):
            yield list(selection)


def every_choice_is_a_tree(formulas, links):
    """The known other way to tell a proof: under "Choices", every choice's graph is a tree."""
    return first_choice_without_tree(formulas, links) is None


def first_choice_without_tree(formulas, links):
    """The number of the first choice, in their order, whose graph isn't a tree; None if there's none."""
    for number, lines in all_choices(formulas, links):
        if not is_tree(all_parts(formulas), lines):
            return number
    return None


def all_choices(formulas, links):
    """The number of every choice, in their order, and the lines of its graph."""
    parts = all_parts(formulas)
    ones = [part for part in parts if not isinstance(part, int) and part[0] == "|"]
    for chosen in itertools.product((1, 2), repeat=len(ones)):
        number = sum(2 ** j for j, which in enumerate(chosen) if which == 2)
        yield number, lines_of(parts, dict(zip(ones, chosen)), links)


def all_parts(formulas):
    """From the left, a bracket where its sign stands."""
    return [part for formula in formulas for part in parts_of(formula)]


def parts_of(formula):
    if isinstance(formula, int):
        return [formula]
    return parts_of(formula[1]) + [formula] + parts_of(formula[2])


def lines_of(parts, chosen, links):
    lines = [(place, other) for place, other in enumerate(links) if place < other]
    for part in parts:
        if part in chosen:
            lines.append((part, part[chosen[part]]))
        elif not isinstance(part, int):
            lines.extend([(part, part[1]), (part, part[2])])
    return lines


def is_tree(parts, lines):
    if len(lines) != len(parts) - 1:
        return False
    near = {part: [] for part in parts}
    for one, other in lines:
        near[one].append(other)
        near[other].append(one)
    reached = {parts[0]}
    waiting = [parts[0]]
    while waiting:
        for part in near[waiting.pop()]:
            if part not in reached:
                reached.add(part)
                waiting.append(part)
    return len(reached) == len(parts)


def near(count):
    """Each place linked with its neighbour."""
    return [place ^ 1 for place in range(count)]


def grow_proof(dice, pairs):
    """A row of formulas, grown by the three rules from linked letters: leaves 0 and 1, 2 and 3, ..

    The leaves are not in order: place_in_order gives them their places.
    """
    rows = [[2 * pair, 2 * pair + 1] for pair in range(pairs)]
    while len(rows) > 1 or dice.random() < 0.8 and len(rows[0]) > 1:
        row = rows.pop(dice.randrange(len(rows)))
        formula = row.pop(dice.randrange(len(row)))
        if row and (not rows or dice.random() < 0.4):
            row.append(("|", formula, row.pop(dice.randrange(len(row)))))
        elif rows:
            other_row = rows.pop(dice.randrange(len(rows)))
            row.append(("*", formula, other_row.pop(dice.randrange(len(other_row)))))
            row.extend(other_row)
        else:
            row.append(formula)
        rows.append(row)
    return rows[0]


def leaves(formula):
    return [part for part in parts_of(formula) if isinstance(part, int)]


def place_in_order(formulas):
    """The same formulas with places from the left, and the links that came along."""
    order = [leaf for formula in formulas for leaf in leaves(formula)]
    place = {leaf: number for number, leaf in enumerate(order)}

    def renumber(formula):
        if isinstance(formula, int):
            return place[formula]
        return (formula[0], renumber(formula[1]), renumber(formula[2]))

    return [renumber(formula) for formula in formulas], [place[leaf ^ 1] for leaf in order]


def change_signs(formula, turns):
    """The formula with * and | changed at those brackets, from the left, where turns say so."""
    if isinstance(formula, int):
        return formula
    left = change_signs(formula[1], turns)
    sign = formula[0]
    if next(turns):
        sign = "|" if sign == "*" else "*"
    return (sign, left, change_signs(formula[2], turns))


def swap_signs(dice, formulas):
    """The formulas with the signs of two brackets swapped: as many of both and of one with the other as before."""
    signs = [part[0] for part in all_parts(formulas) if not isinstance(part, int)]
    swapped = list(signs)
    one, other = dice.sample(range(len(signs)), 2)
    swapped[one], swapped[other] = swapped[other], swapped[one]
    turns = iter([before != after for before, after in zip(signs, swapped)])
    return [change_signs(formula, turns) for formula in formulas]
