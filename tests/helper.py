"""Writes calls as the numbers they stand for, and takes the answers apart again."""

from pentrail.world import answers

SIGNS = "ABCDEFGHIJKLMNOPQRSTUVWXYZabcdefghijklmnopqrstuvwxyz>+-|[]"
LETTERS = SIGNS[:52]
TURN_COUNTS = (3, 4, 5, 6, 8, 10, 12)


def numbers_of(text):
    if isinstance(text, str):
        text = text.encode("latin-1")
    return list(text)


def counted(text):
    numbers = numbers_of(text)
    return [len(numbers)] + numbers


def byte_of(sign):
    return ord(sign) if isinstance(sign, str) else sign


def start(m):
    return [1, m]


def row(text):
    return [2] + counted(text)


def rule(letter, text):
    return [3, byte_of(letter)] + counted(text)


def read(text):
    return [4] + counted(text)


def write():
    return [5]


def length(g):
    return [6, g]


def count(g, sign):
    return [7, g, byte_of(sign)]


def slice_of(g, first, n):
    return [8, g, first, n]


def joined(calls):
    return [number for call in calls for number in call]


def parts(told):
    """One list of numbers for each call."""
    found = []
    place = 0
    while place < len(told):
        size = told[place]
        if size < 1 or place + 1 + size > len(told):
            raise AssertionError(f"a wrong count at {place} of {told}")
        found.append(told[place + 1:place + 1 + size])
        place += 1 + size
    return found


def taken_apart(numbers):
    """One answer's number, list and text; its form is held to on the way."""
    if len(numbers) == 1:
        return (numbers[0], [], "")
    listed_end = 2 + numbers[1]
    listed = numbers[2:listed_end]
    text = numbers[listed_end + 1:]
    if len(text) != numbers[listed_end] or not (listed or text):
        raise AssertionError(f"no answer's form: {numbers}")
    return (numbers[0], listed, bytes(text).decode("latin-1"))


def ask(*calls):
    """The answers to the calls on one new world, each as (number, list, text)."""
    told = [taken_apart(numbers) for numbers in parts(answers(joined(calls)))]
    if len(told) != len(calls):
        raise AssertionError(f"{len(told)} answers to {len(calls)} calls")
    return told


def last(*calls):
    return ask(*calls)[-1]


def done(number):
    """An answer that is its number alone."""
    return (number, [], "")


def listed(*numbers):
    return (0, list(numbers), "")


def text_told(text):
    """What write and slice answer of a text."""
    return (len(text), [], text)


def fault(place):
    return (-3, [place], "")
