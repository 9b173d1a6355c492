"""Forms of copies and rows as texts, written and read."""

from touchpin.copies import length_of, reach_of
from touchpin.errors import NoText
from touchpin.pieces import MOST_SIGNS, is_one_letter
from touchpin.rows import MOST_ROWS, is_row

FIGURES = "0123456789"
MOST_FIGURES = 3


def form_text(form):
    """The text that writes a form of copies."""
    return " ".join([part_word(part) for part in form])


def part_word(part):
    """The word that writes a part."""
    return part[1] if part[0] == "sign" else f"{part[1]}:{part[2]}"


def rows_text(rows):
    """The text that writes rows, a line for each."""
    return "\n".join([" ".join([str(item) for item in row]) for row in rows])


def read_number(word):
    """The number that a word writes, or None."""
    if not 1 <= len(word) <= MOST_FIGURES or not all([sign in FIGURES for sign in word]):
        return None
    if word[0] == "0" and word != "0":
        return None
    return int(word)


def read_form(text):
    """The form of copies that a text writes; refused at the first word that isn't so."""
    parts = read_parts(text)
    signs = sum([length_of(part) for part in parts])
    for number, part in enumerate(parts):
        if reach_of(part) > signs:
            raise NoText(number)
    return tuple(parts)


def read_parts(text):
    """The parts that the words write, wherever their copies reach to."""
    parts = []
    signs = 0
    # Split, the text without signs would be one word without signs.
    words = text.split(" ") if text else []
    for number, word in enumerate(words):
        part = read_part(word)
        if part is None or signs + length_of(part) > MOST_SIGNS:
            raise NoText(number)
        signs += length_of(part)
        parts.append(part)
    return parts


def read_part(word):
    """The part that a word writes, or None."""
    if is_one_letter(word):
        return "sign", word
    # Without a colon how many is the word without signs, and with two it has one of them: neither is a number.
    place, colon, many = word.partition(":")
    origin = read_number(place)
    signs = read_number(many)
    if origin is None or signs is None or signs < 1:
        return None
    return "copy", origin, signs


def read_rows(text):
    """The rows that a text writes; refused at the first line that isn't so."""
    rows = []
    for number, line in enumerate(text.split("\n")):
        row = tuple([read_item(word) for word in line.split(" ")])
        if number >= MOST_ROWS or not is_row(row, number):
            raise NoText(number)
        rows.append(row)
    return tuple(rows)


def read_item(word):
    """The letter that a word is, or the number that it writes, or None."""
    return word if is_one_letter(word) else read_number(word)
