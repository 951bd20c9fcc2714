"""The calls on one new world, as one list of whole numbers, and their answers as another."""

from pentrail.asking import count_answer, find_answer, length_answer, often_answer, slice_answer
from pentrail.going import drawn_answer, far_answer, meets_answer, round_answer, walk_answer, where_answer
from pentrail.making import read_answer, row_answer, rule_answer, start_answer, write_answer
from pentrail.store import World

START = 1
ROW = 2
RULE = 3
READ = 4
WRITE = 5
LENGTH = 6
COUNT = 7
SLICE = 8
FIND = 9
OFTEN = 10
WHERE = 11
DRAWN = 12
FAR = 13
ROUND = 14
MEETS = 15
WALK = 16


class NoSuchCall(ValueError):
    pass


class Cursor:
    def __init__(self, numbers):
        self.numbers = numbers
        self.place = 0

    def at_end(self):
        return self.place >= len(self.numbers)

    def take(self):
        self.place += 1
        return self.numbers[self.place - 1]

    # A slice is a copy, so what the world keeps of it is never the list that was handed in.
    def take_text(self):
        size = self.take()
        self.place += size
        return self.numbers[self.place - size:self.place]


def making_call(world, call, cursor):
    if call == START:
        return start_answer(world, cursor.take())
    if call == ROW:
        return row_answer(world, cursor.take_text())
    if call == RULE:
        letter = cursor.take()
        return rule_answer(world, letter, cursor.take_text())
    if call == READ:
        return read_answer(world, cursor.take_text())
    return write_answer(world)


def asking_call(world, call, cursor):
    g = cursor.take()
    if call == LENGTH:
        return length_answer(world, g)
    if call == COUNT:
        return count_answer(world, g, cursor.take())
    if call == SLICE:
        first = cursor.take()
        return slice_answer(world, g, first, cursor.take())
    if call == FIND:
        first = cursor.take()
        return find_answer(world, g, cursor.take_text(), first)
    return often_answer(world, g, cursor.take_text())


def going_call(world, call, cursor):
    g = cursor.take()
    if call == ROUND:
        return round_answer(world, g)
    number = cursor.take()
    if call == WHERE:
        return where_answer(world, g, number)
    if call == DRAWN:
        return drawn_answer(world, g, number)
    if call == FAR:
        return far_answer(world, g, number)
    if call == MEETS:
        return meets_answer(world, g, number)
    return walk_answer(world, g, number, cursor.take())


def one_call(world, cursor):
    call = cursor.take()
    if START <= call <= WRITE:
        return making_call(world, call, cursor)
    if LENGTH <= call <= OFTEN:
        return asking_call(world, call, cursor)
    if WHERE <= call <= WALK:
        return going_call(world, call, cursor)
    raise NoSuchCall(f"{call}")


def answers(calls):
    world = World()
    cursor = Cursor(calls)
    told = []
    while not cursor.at_end():
        numbers = one_call(world, cursor).flat()
        told.append(len(numbers))
        told.extend(numbers)
    return told
