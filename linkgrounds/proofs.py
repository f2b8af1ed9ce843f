"""Texts of formulas and the links of their letters: which are a proof, and why others are none.

The first proof of a text is found, and all are counted.

The program is this one file, for it is asked to import nothing.
"""

MOST_BYTES = 256
MOST_LINKS = 16
MOST_LETTERS = 16
MOST_BRACKETS = 16

NO_LENGTH = -1
NO_TEXT = -2
NO_LINKS = -3
NO_ANSWER = -6


class Part:
    def __init__(self, sign, left, right):
        # The byte of a letter, or of the * or | between two formulas. These two are indexes of
        # all parts, so that what is known of parts can be kept in lists; a letter has None.
        self.sign = sign
        self.left = left
        self.right = right


class Reading:
    def __init__(self):
        # Each part stands behind those within it: one walk can build on what it found before.
        self.parts = []
        # The index of the letter at each place.
        self.letters = []
        # The index of each |, in the order of these signs; None as long as its bracket is open.
        self.ones = []
        # Those still open: sign, first formula and how many | came before the sign; or None as
        # long as the sign hasn't come.
        self.brackets = []
        # The index of the formula that ends here, or None where a formula has to begin.
        self.latest = None


def is_letter(byte):
    return ord("a") <= byte <= ord("h") or ord("A") <= byte <= ord("H")


def finish_part(reading, part):
    reading.latest = len(reading.parts)
    reading.parts.append(part)


# The readers of one byte answer whether a text may go on with it.


def begin_formula(reading, byte):
    if byte == ord("("):
        reading.brackets.append(None)
        return len(reading.brackets) <= MOST_BRACKETS
    if not is_letter(byte):
        return False
    finish_part(reading, Part(byte, None, None))
    reading.letters.append(reading.latest)
    return len(reading.letters) <= MOST_LETTERS


def go_on_outside_brackets(reading, byte):
    if byte != ord(","):
        return False
    reading.latest = None
    return True


def go_on_to_second(reading, byte):
    if byte != ord("*") and byte != ord("|"):
        return False
    reading.brackets[-1] = (byte, reading.latest, len(reading.ones))
    reading.latest = None
    if byte == ord("|"):
        reading.ones.append(None)
    return True


def close_bracket(reading, byte):
    if byte != ord(")"):
        return False
    half = reading.brackets.pop()
    finish_part(reading, Part(half[0], half[1], reading.latest))
    if half[0] == ord("|"):
        reading.ones[half[2]] = reading.latest
    return True


def read_byte(reading, byte):
    if reading.latest is None:
        return begin_formula(reading, byte)
    if not reading.brackets:
        return go_on_outside_brackets(reading, byte)
    if reading.brackets[-1] is None:
        return go_on_to_second(reading, byte)
    return close_bracket(reading, byte)


# None where the bytes are no text.
def read_text(text):
    reading = Reading()
    for byte in text:
        if not read_byte(reading, byte):
            return None
    if reading.latest is None or reading.brackets:
        return None
    return reading


def is_turned_other(one, other):
    return abs(one - other) == ord("a") - ord("A")


def are_links(reading, links):
    if len(links) != len(reading.letters):
        return False
    signs = [reading.parts[index].sign for index in reading.letters]
    for place, other in enumerate(links):
        if not 0 <= other < len(links):
            return False
        # A place linked to itself fails here too, for no letter is its own turned one.
        if links[other] != place or not is_turned_other(signs[place], signs[other]):
            return False
    return True


# None where nothing is refused.
def refusal_of_text(text, reading):
    if len(text) > MOST_BYTES:
        return NO_LENGTH
    if reading is None:
        return NO_TEXT
    return None


def refusal_of_links(text, reading, links):
    if len(links) > MOST_LINKS:
        return NO_LENGTH
    refusal = refusal_of_text(text, reading)
    if refusal is None and not are_links(reading, links):
        return NO_LINKS
    return refusal


class Pieces:
    def __init__(self, numbers, waiting):
        # Of each part the number of its piece: parts of one piece hang together in the graphs of
        # all choices alike.
        self.numbers = numbers
        # The index of each | that isn't joined with anything yet, as its two formulas lie in
        # different pieces: there the choice matters.
        self.waiting = waiting


def join_pieces(numbers, one, other):
    kept = numbers[one]
    joined = numbers[other]
    return [kept if number == joined else number for number in numbers]


# A | whose formulas lie in one piece belongs to that piece whichever is chosen. One that lies there
# itself would make a ring, so it stays waiting for good.
def settle_waiting(reading, numbers, waiting):
    going_on = True
    while going_on:
        still = []
        for index in waiting:
            part = reading.parts[index]
            piece = numbers[part.left]
            if piece == numbers[part.right] and piece != numbers[index]:
                numbers = join_pieces(numbers, part.left, index)
            else:
                still.append(index)
        going_on = len(still) < len(waiting)
        waiting = still
    return Pieces(numbers, waiting)


# None where the line makes a ring in the graphs of all choices.
def add_line(reading, pieces, one, other):
    if pieces.numbers[one] == pieces.numbers[other]:
        return None
    return settle_waiting(reading, join_pieces(pieces.numbers, one, other), pieces.waiting)


def pieces_without_links(reading):
    numbers = list(range(len(reading.parts)))
    for index, part in enumerate(reading.parts):
        if part.sign == ord("*"):
            numbers = join_pieces(join_pieces(numbers, index, part.left), index, part.right)
    return Pieces(numbers, reading.ones)


# None where the graphs of all choices have a ring.
def pieces_of_links(reading, links):
    pieces = pieces_without_links(reading)
    for place, other in enumerate(links):
        if pieces is not None and place < other:
            pieces = add_line(reading, pieces, reading.letters[place], reading.letters[other])
    return pieces


# By a known theorem these three are the same: the links are a proof, every choice's graph is a
# tree, and all parts come to be one piece in this way. So neither proofs nor choices are tried out.
def is_proof(pieces):
    if pieces is None or pieces.waiting:
        return False
    return pieces.numbers.count(pieces.numbers[0]) == len(pieces.numbers)


def choose(reading, pieces, index, chosen):
    waiting = [other for other in pieces.waiting if other != index]
    return add_line(reading, Pieces(pieces.numbers, waiting), index, chosen)


# Where the pieces are no proof. Once chosen, a | is no more than its chosen formula, and the other
# formula stands by itself. That is like a text again, so it can be asked of it whether every
# further choice's graph is a tree.
def first_choice_without_tree(reading, pieces):
    choice = 0
    weight = 1
    for index in reading.ones:
        # After a ring, and where the | isn't waiting, both of its formulas come to the same.
        if pieces is not None and index in pieces.waiting:
            part = reading.parts[index]
            further = choose(reading, pieces, index, part.left)
            if is_proof(further):
                choice += weight
                further = choose(reading, pieces, index, part.right)
            pieces = further
        weight *= 2
    return choice


class Linking:
    def __init__(self, links, places, pieces):
        # None at the places that are not linked yet; these are told from the left.
        self.links = links
        self.places = places
        self.pieces = pieces


def linking_without_links(reading):
    places = list(range(len(reading.letters)))
    return Linking([None for place in places], places, pieces_without_links(reading))


# Every choice's graph has two lines for each *, one for each | and one for each link. That makes a
# tree only where there is one * less than links, whatever they are.
def can_have_proof(reading):
    signs = [part.sign for part in reading.parts]
    for plain, turned in zip("abcdefgh", "ABCDEFGH"):
        if signs.count(ord(plain)) != signs.count(ord(turned)):
            return False
    return 2 * signs.count(ord("*")) + 2 == len(reading.letters)


# What is found here no further link can mend.
def has_ring(reading, pieces):
    numbers = pieces.numbers
    for index in pieces.waiting:
        part = reading.parts[index]
        if numbers[index] == numbers[part.left] or numbers[index] == numbers[part.right]:
            return True
    return False


def add_link(reading, linking, place, other):
    pieces = add_line(reading, linking.pieces, reading.letters[place], reading.letters[other])
    if pieces is None or has_ring(reading, pieces):
        return None
    links = list(linking.links)
    links[place] = other
    links[other] = place
    return Linking(links, [left for left in linking.places if links[left] is None], pieces)


# The lower links come first, as the first proof is to have them.
def all_further_linkings(reading, linking):
    place = linking.places[0]
    sign = reading.parts[reading.letters[place]].sign
    linkings = []
    for other in linking.places:
        if is_turned_other(sign, reading.parts[reading.letters[other]].sign):
            further = add_link(reading, linking, place, other)
            if further is not None:
                linkings.append(further)
    return linkings


# Linkings of one text have the same key only if they go on in the same ways: then the same places
# are left and the same | waiting, and what can still be joined lies in the same pieces. (How many
# pieces have nothing left to join follows from can_have_proof.)
def key_of_linking(reading, linking):
    ends = [reading.letters[place] for place in linking.places]
    for index in linking.pieces.waiting:
        ends.extend([index, reading.parts[index].left, reading.parts[index].right])
    first_ends = {}
    key = list(ends)
    for end in ends:
        key.append(first_ends.setdefault(linking.pieces.numbers[end], end))
    return tuple(key)


# None where no proof begins with the linking. The keys of such linkings are collected in dead, for
# of many rows of links few differ in what is left.
def find_proof(reading, linking, dead):
    if not linking.places:
        return linking.links if is_proof(linking.pieces) else None
    key = key_of_linking(reading, linking)
    if key in dead:
        return None
    for further in all_further_linkings(reading, linking):
        links = find_proof(reading, further, dead)
        if links is not None:
            return links
    dead[key] = True
    return None


# How many proofs begin with the linking; known has that of the keys that were met before.
def count_proofs(reading, linking, known):
    if not linking.places:
        return 1 if is_proof(linking.pieces) else 0
    key = key_of_linking(reading, linking)
    if key not in known:
        linkings = all_further_linkings(reading, linking)
        known[key] = sum([count_proofs(reading, further, known) for further in linkings])
    return known[key]


def net(text, links):
    reading = read_text(text)
    refusal = refusal_of_links(text, reading, links)
    if refusal is not None:
        return [refusal]
    if is_proof(pieces_of_links(reading, links)):
        return [1]
    return [0]


def why(text, links):
    reading = read_text(text)
    refusal = refusal_of_links(text, reading, links)
    if refusal is not None:
        return [refusal]
    pieces = pieces_of_links(reading, links)
    if is_proof(pieces):
        return [NO_ANSWER]
    return [first_choice_without_tree(reading, pieces)]


def first(text):
    reading = read_text(text)
    refusal = refusal_of_text(text, reading)
    if refusal is not None:
        return [refusal]
    links = None
    if can_have_proof(reading):
        links = find_proof(reading, linking_without_links(reading), {})
    if links is None:
        return [NO_ANSWER]
    return [len(links)] + links


def count(text):
    reading = read_text(text)
    refusal = refusal_of_text(text, reading)
    if refusal is not None:
        return [refusal]
    if not can_have_proof(reading):
        return [0]
    return [count_proofs(reading, linking_without_links(reading), {})]
