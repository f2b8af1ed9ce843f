"""Texts of formulas, the links of their letters, which links are a proof, and why others are none.

The program is this one file, for it is asked to import nothing.
"""

MOST_BYTES = 256
MOST_LINKS = 16
MOST_LETTERS = 16
MOST_BRACKETS = 16

NO_LENGTH = -1
NO_TEXT = -2
NO_LINKS = -3
NO_ANSWER = -6


class Part:
    def __init__(self, sign, left, right):
        # The byte of a letter, or of the * or | between two formulas. These two are indexes of
        # all parts, so that what is known of parts can be kept in lists; a letter has None.
        self.sign = sign
        self.left = left
        self.right = right


class Reading:
    def __init__(self):
        # Each part stands behind those within it: one walk can build on what it found before.
        self.parts = []
        # The index of the letter at each place.
        self.letters = []
        # The index of each |, in the order of these signs; None as long as its bracket is open.
        self.ones = []
        # Those still open: sign, first formula and how many | came before the sign; or None as
        # long as the sign hasn't come.
        self.brackets = []
        # The index of the formula that ends here, or None where a formula has to begin.
        self.latest = None


def is_letter(byte):
    return ord("a") <= byte <= ord("h") or ord("A") <= byte <= ord("H")


def finish_part(reading, part):
    reading.latest = len(reading.parts)
    reading.parts.append(part)


# The readers of one byte answer whether a text may go on with it.


def begin_formula(reading, byte):
    if byte == ord("("):
        reading.brackets.append(None)
        return len(reading.brackets) <= MOST_BRACKETS
    if not is_letter(byte):
        return False
    finish_part(reading, Part(byte, None, None))
    reading.letters.append(reading.latest)
    return len(reading.letters) <= MOST_LETTERS


def go_on_outside_brackets(reading, byte):
    if byte != ord(","):
        return False
    reading.latest = None
    return True


def go_on_to_second(reading, byte):
    if byte != ord("*") and byte != ord("|"):
        return False
    reading.brackets[-1] = (byte, reading.latest, len(reading.ones))
    reading.latest = None
    if byte == ord("|"):
        reading.ones.append(None)
    return True


def close_bracket(reading, byte):
    if byte != ord(")"):
        return False
    half = reading.brackets.pop()
    finish_part(reading, Part(half[0], half[1], reading.latest))
    if half[0] == ord("|"):
        reading.ones[half[2]] = reading.latest
    return True


def read_byte(reading, byte):
    if reading.latest is None:
        return begin_formula(reading, byte)
    if not reading.brackets:
        return go_on_outside_brackets(reading, byte)
    if reading.brackets[-1] is None:
        return go_on_to_second(reading, byte)
    return close_bracket(reading, byte)


# None where the bytes are no text.
def read_text(text):
    reading = Reading()
    for byte in text:
        if not read_byte(reading, byte):
            return None
    if reading.latest is None or reading.brackets:
        return None
    return reading


def is_turned_other(one, other):
    return abs(one - other) == ord("a") - ord("A")


def are_links(reading, links):
    if len(links) != len(reading.letters):
        return False
    signs = [reading.parts[index].sign for index in reading.letters]
    for place, other in enumerate(links):
        if not 0 <= other < len(links):
            return False
        # A place linked to itself fails here too, for no letter is its own turned one.
        if links[other] != place or not is_turned_other(signs[place], signs[other]):
            return False
    return True


# None where nothing is refused.
def refusal_of_text(text, reading):
    if len(text) > MOST_BYTES:
        return NO_LENGTH
    if reading is None:
        return NO_TEXT
    return None


def refusal_of_links(text, reading, links):
    if len(links) > MOST_LINKS:
        return NO_LENGTH
    refusal = refusal_of_text(text, reading)
    if refusal is None and not are_links(reading, links):
        return NO_LINKS
    return refusal


class Pieces:
    def __init__(self, numbers, waiting):
        # Of each part the number of its piece: parts of one piece hang together in the graphs of
        # all choices alike.
        self.numbers = numbers
        # The index of each | that isn't joined with anything yet, as its two formulas lie in
        # different pieces: there the choice matters.
        self.waiting = waiting


def join_pieces(numbers, one, other):
    kept = numbers[one]
    joined = numbers[other]
    return [kept if number == joined else number for number in numbers]


# A | whose formulas lie in one piece belongs to that piece whichever is chosen. One that lies there
# itself would make a ring, so it stays waiting for good.
def settle_waiting(reading, numbers, waiting):
    going_on = True
    while going_on:
        still = []
        for index in waiting:
            part = reading.parts[index]
            piece = numbers[part.left]
            if piece == numbers[part.right] and piece != numbers[index]:
                numbers = join_pieces(numbers, part.left, index)
            else:
                still.append(index)
        going_on = len(still) < len(waiting)
        waiting = still
    return Pieces(numbers, waiting)


# None where the line makes a ring in the graphs of all choices.
def add_line(reading, pieces, one, other):
    if pieces.numbers[one] == pieces.numbers[other]:
        return None
    return settle_waiting(reading, join_pieces(pieces.numbers, one, other), pieces.waiting)


def pieces_without_links(reading):
    numbers = list(range(len(reading.parts)))
    for index, part in enumerate(reading.parts):
        if part.sign == ord("*"):
            numbers = join_pieces(join_pieces(numbers, index, part.left), index, part.right)
    return Pieces(numbers, reading.ones)


# None where the graphs of all choices have a ring.
def pieces_of_links(reading, links):
    pieces = pieces_without_links(reading)
    for place, other in enumerate(links):
        if pieces is not None and place < other:
            pieces = add_line(reading, pieces, reading.letters[place], reading.letters[other])
    return pieces


# By a known theorem these three are the same: the links are a proof, every choice's graph is a
# tree, and all parts come to be one piece in this way. So neither proofs nor choices are tried out.
def is_proof(pieces):
    if pieces is None or pieces.waiting:
        return False
    return pieces.numbers.count(pieces.numbers[0]) == len(pieces.numbers)


def choose(reading, pieces, index, chosen):
    waiting = [other for other in pieces.waiting if other != index]
    return add_line(reading, Pieces(pieces.numbers, waiting), index, chosen)


# Where the pieces are no proof. Once chosen, a | is no more than its chosen formula, and the other
# formula stands by itself. That is like a text again, so it can be asked of it whether every
# further choice's graph is a tree.
def first_choice_without_tree(reading, pieces):
    choice = 0
    weight = 1
    for index in reading.ones:
        # After a ring, and where the | isn't waiting, both of its formulas come to the same.
        if pieces is not None and index in pieces.waiting:
            part = reading.parts[index]
            further = choose(reading, pieces, index, part.left)
            if is_proof(further):
                choice += weight
                further = choose(reading, pieces, index, part.right)
            pieces = further
        weight *= 2
    return choice


def net(text, links):
    reading = read_text(text)
    refusal = refusal_of_links(text, reading, links)
    if refusal is not None:
        return [refusal]
    if is_proof(pieces_of_links(reading, links)):
        return [1]
    return [0]


def why(text, links):
    reading = read_text(text)
    refusal = refusal_of_links(text, reading, links)
    if refusal is not None:
        return [refusal]
    pieces = pieces_of_links(reading, links)
    if is_proof(pieces):
        return [NO_ANSWER]
    return [first_choice_without_tree(reading, pieces)]
