"""The calls that make a world or write it: start, row, rule, read, write."""

from pentrail.answer import number_alone, with_list, with_text
from pentrail.rows import TURN_COUNTS, is_letter, is_row
from pentrail.worldtext import TextFault, read_text, text_of

LONGEST_TEXT = 65536


def start_answer(world, turns):
    if turns not in TURN_COUNTS:
        return number_alone(-1)
    world.become(turns, [], {})
    return number_alone(0)


def row_answer(world, text):
    if not is_row(text, world.turns):
        return number_alone(-3)
    world.set_row(text)
    return number_alone(0)


def rule_answer(world, letter, text):
    if not is_letter(letter):
        return number_alone(-1)
    if not is_row(text, world.turns):
        return number_alone(-3)
    world.set_rule(letter, text)
    return number_alone(0)


def read_answer(world, text):
    if len(text) > LONGEST_TEXT:
        return number_alone(-1)
    try:
        parts = read_text(text)
    except TextFault as fault:
        return with_list(-3, [fault.place])
    world.become(parts[0], parts[1], parts[2])
    return number_alone(0)


def write_answer(world):
    text = text_of(world.turns, world.first_row, world.rules)
    return with_text(text)
