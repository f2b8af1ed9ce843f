"""Texts of formulas, the links of their letters, and which links are a proof.

The program is this one file, for it is asked to import nothing.
"""

MOST_BYTES = 256
MOST_LINKS = 16
MOST_LETTERS = 16
MOST_BRACKETS = 16

NO_LENGTH = -1
NO_TEXT = -2
NO_LINKS = -3


class Part:
    def __init__(self, sign, left, right):
        # The byte of a letter, or of the * or | between two formulas. These two are indexes of
        # all parts, so that what is known of parts can be kept in lists; a letter has None.
        self.sign = sign
        self.left = left
        self.right = right


class Reading:
    def __init__(self):
        # Each part stands behind those within it: one walk can build on what it found before.
        self.parts = []
        # The index of the letter at each place, and of each formula that lies in no other.
        self.letters = []
        self.tops = []
        # Those still open: sign and first formula, or None as long as the sign hasn't come.
        self.brackets = []
        # The index of the formula that ends here, or None where a formula has to begin.
        self.latest = None


def is_letter(byte):
    return ord("a") <= byte <= ord("h") or ord("A") <= byte <= ord("H")


def finish_part(reading, part):
    reading.latest = len(reading.parts)
    reading.parts.append(part)


# The readers of one byte answer whether a text may go on with it.


def begin_formula(reading, byte):
    if byte == ord("("):
        reading.brackets.append(None)
        return len(reading.brackets) <= MOST_BRACKETS
    if not is_letter(byte):
        return False
    finish_part(reading, Part(byte, None, None))
    reading.letters.append(reading.latest)
    return len(reading.letters) <= MOST_LETTERS


def go_on_outside_brackets(reading, byte):
    if byte != ord(","):
        return False
    reading.tops.append(reading.latest)
    reading.latest = None
    return True


def go_on_to_second(reading, byte):
    if byte != ord("*") and byte != ord("|"):
        return False
    reading.brackets[-1] = (byte, reading.latest)
    reading.latest = None
    return True


def close_bracket(reading, byte):
    if byte != ord(")"):
        return False
    half = reading.brackets.pop()
    finish_part(reading, Part(half[0], half[1], reading.latest))
    return True


def read_byte(reading, byte):
    if reading.latest is None:
        return begin_formula(reading, byte)
    if not reading.brackets:
        return go_on_outside_brackets(reading, byte)
    if reading.brackets[-1] is None:
        return go_on_to_second(reading, byte)
    return close_bracket(reading, byte)


# None where the bytes are no text.
def read_text(text):
    reading = Reading()
    for byte in text:
        if not read_byte(reading, byte):
            return None
    if reading.latest is None or reading.brackets:
        return None
    reading.tops.append(reading.latest)
    return reading


def is_turned_other(one, other):
    return abs(one - other) == ord("a") - ord("A")


def are_links(reading, links):
    if len(links) != len(reading.letters):
        return False
    signs = [reading.parts[index].sign for index in reading.letters]
    for place, other in enumerate(links):
        if not 0 <= other < len(links):
            return False
        # A place linked to itself fails here too, for no letter is its own turned one.
        if links[other] != place or not is_turned_other(signs[place], signs[other]):
            return False
    return True


# A piece is a number for parts that are proved together: those of them that lie in no other
# part of the piece have a proof. A part that isn't proved yet has None.


def pieces_of_letters(reading, links):
    pieces = [None for part in reading.parts]
    for place, other in enumerate(links):
        pieces[reading.letters[place]] = min(place, other)
    return pieces


def can_be_proved(part, pieces):
    left = pieces[part.left]
    right = pieces[part.right]
    if left is None or right is None:
        return False
    if part.sign == ord("*"):
        return left != right
    return left == right


def join_pieces(pieces, kept, joined):
    for index in range(len(pieces)):
        if pieces[index] == joined:
            pieces[index] = kept


# Answers whether any part was proved.
def prove_parts(parts, pieces):
    proved = False
    for index, part in enumerate(parts):
        if pieces[index] is None and can_be_proved(part, pieces):
            join_pieces(pieces, pieces[part.left], pieces[part.right])
            pieces[index] = pieces[part.left]
            proved = True
    return proved


def is_proof(reading, links):
    # The rules are followed from the letters upwards, each as soon as it can be. No search is
    # needed: every formula is used once, so where there is a proof no step blocks another.
    pieces = pieces_of_letters(reading, links)
    going_on = True
    while going_on:
        going_on = prove_parts(reading.parts, pieces)
    whole = pieces[reading.tops[0]]
    return whole is not None and all([pieces[top] == whole for top in reading.tops])


def net(text, links):
    if len(text) > MOST_BYTES or len(links) > MOST_LINKS:
        return [NO_LENGTH]
    reading = read_text(text)
    if reading is None:
        return [NO_TEXT]
    if not are_links(reading, links):
        return [NO_LINKS]
    if is_proof(reading, links):
        return [1]
    return [0]
