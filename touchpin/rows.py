"""Rows that name earlier ones: the text that they write, where they are first met in it, and their pins."""

from touchpin.errors import TooMany
from touchpin.pieces import MOST_SIGNS, is_one_letter, pieces_of
from touchpin.whole import is_whole

MOST_ROWS = 60
MOST_ITEMS = 12


def is_rows(thing):
    """Whether anything is one to sixty rows, each of letters and of numbers of earlier rows."""
    if not isinstance(thing, tuple) or not 1 <= len(thing) <= MOST_ROWS:
        return False
    return all([is_row(row, number) for number, row in enumerate(thing)])


def is_row(thing, number):
    """Whether anything is a row that may stand under this number."""
    if not isinstance(thing, tuple) or not 1 <= len(thing) <= MOST_ITEMS:
        return False
    return all([is_item(item, number) for item in thing])


def is_item(thing, number):
    """Whether anything is a letter, or the number of a row ahead of the one under this number."""
    return is_one_letter(thing) or is_whole(thing) and 0 <= thing < number


def text_of_rows(rows):
    """The text of the last row; refused where some row's text is too long."""
    return row_texts(rows)[-1]


def row_texts(rows):
    """The text of each row; refused where one is too long, be it met or not."""
    texts = []
    for row in rows:
        text = "".join(item_texts(row, texts))
        # Refused at once, as texts that double row by row would soon have more signs than can be kept.
        if len(text) > MOST_SIGNS:
            raise TooMany("a row's text has more than 300 signs")
        texts.append(text)
    return texts


def item_texts(row, texts):
    """The text of each item of a row, from the texts of the rows ahead."""
    return [item if isinstance(item, str) else texts[item] for item in row]


def first_met(rows):
    """For each row the least place at which it is put in the last row's text, or None."""
    texts = row_texts(rows)
    met = [None] * len(rows)
    met[-1] = 0
    # Only later rows name a row, so that its least place is settled when its turn comes.
    for number in reversed(range(len(rows))):
        row = rows[number]
        ends = [] if met[number] is None else item_ends(row, met[number], texts)
        for item, end in zip(row, ends):
            if not isinstance(item, str):
                met[item] = least_of(met[item], end - len(texts[item]))
    return met


def least_of(place, other):
    """The lesser of a place, if there is one yet, and another one."""
    return other if place is None else min(place, other)


def item_ends(row, start, texts):
    """Where each item of a row that is put in at the start ends: the place behind its last sign."""
    ends = []
    for text in item_texts(row, texts):
        start += len(text)
        ends.append(start)
    return ends


def pins_of_rows(rows):
    """The last places of all items but the last one of each row as it is first met, and the letters' first places."""
    texts = row_texts(rows)
    text = texts[-1]
    places = [text.find(letter) for letter in pieces_of(text, 1)]
    for row, start in zip(rows, first_met(rows)):
        if start is not None:
            places.extend([end - 1 for end in item_ends(row, start, texts)[:-1]])
    return tuple(sorted(set(places)))
