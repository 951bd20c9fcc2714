"""A world's text: how it is written, and how it is read or at which byte it is at fault."""

from pentrail.rows import TURN_COUNTS, is_letter, is_paired, row_end

LINE_FEED = 10
EQUALS = 61


class TextFault(ValueError):
    def __init__(self, place):
        self.place = place


def turns_line(turns):
    return [ord(digit) for digit in str(turns)] + [LINE_FEED]


def text_of(turns, first_row, rules):
    text = turns_line(turns) + first_row + [LINE_FEED]
    for letter in sorted(rules):
        text.extend([letter, EQUALS])
        text.extend(rules[letter])
        text.append(LINE_FEED)
    return text


def same_at_beginning(text, line):
    place = 0
    while place < len(text) and place < len(line) and text[place] == line[place]:
        place += 1
    return place


# Several numbers may begin alike (10 and 12), so the fault is where the last one of them is left.
def read_turns(text):
    farthest = 0
    for turns in TURN_COUNTS:
        line = turns_line(turns)
        same = same_at_beginning(text, line)
        if same == len(line):
            return turns
        farthest = max(farthest, same)
    raise TextFault(farthest)


def read_row(text, begin, turns):
    end = row_end(text, begin, turns)
    row = text[begin:end]
    if end == len(text) or text[end] != LINE_FEED or not is_paired(row):
        raise TextFault(end)
    return row


def read_letter(text, place, letter_before):
    letter = text[place]
    if not is_letter(letter) or letter <= letter_before:
        raise TextFault(place)
    if place + 1 == len(text) or text[place + 1] != EQUALS:
        raise TextFault(place + 1)
    return letter


# Each part raises TextFault at the first byte with which no text begins, so that the first fault is told.
def read_text(text):
    turns = read_turns(text)
    place = len(turns_line(turns))
    first_row = read_row(text, place, turns)
    place += len(first_row) + 1
    rules = {}
    letter = 0
    while place < len(text):
        letter = read_letter(text, place, letter)
        row = read_row(text, place + 2, turns)
        rules[letter] = row
        place += len(row) + 3
    return (turns, first_row, rules)
