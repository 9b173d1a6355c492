"""Copies from pins: a form of a text that pins alone give, each sign of it a few steps from a pin."""

from touchpin.errors import Missed
from touchpin.pins import first_missed, first_touched


def copies_from(text, pins):
    """A form of the text, signs at the pins and copies from over pins; refused where the pins miss a piece."""
    missed = first_missed(text, pins)
    if missed is not None:
        raise Missed(missed)
    parts = []
    start = 0
    for many in part_lengths(len(text), pins):
        parts.append(part_at(text, pins, start, many))
        start += many
    return tuple(parts)


def part_lengths(signs, pins):
    """The lengths of the parts, one behind the other, those of one sign for the pins among them."""
    if not pins:
        return []
    lengths = doubled(pins[0])[::-1]
    for left, right in zip(pins, pins[1:]):
        between = right - left - 1
        backwards = between // 2
        lengths.extend([1] + doubled(between - backwards) + doubled(backwards)[::-1])
    return lengths + [1] + doubled(signs - pins[-1] - 1)


def doubled(places):
    """So many places parted into 1, 2, 4, .. of them, the last part cut."""
    lengths = []
    many = 1
    while places > 0:
        lengths.append(min(many, places))
        places -= many
        many += many
    return lengths


def part_at(text, pins, start, many):
    """The sign of a pin, or a copy of these signs from the least place where they touch a pin."""
    if start in pins:
        return "sign", text[start]
    return "copy", first_touched(text, pins, text[start:start + many]), many
