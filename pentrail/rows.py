"""Signs, and which lists of bytes are rows of them."""

TURN_COUNTS = (3, 4, 5, 6, 8, 10, 12)

LONGEST_ROW = 255

GO = 62
TURN_MORE = 43
TURN_LESS = 45
HALF_ROUND = 124
KEEP = 91
GO_BACK = 93
# > + - | [ ]
SIGNS_BESIDE_LETTERS = (62, 43, 45, 124, 91, 93)


# A to Z
def is_step(byte):
    return 65 <= byte <= 90


def is_letter(byte):
    return is_step(byte) or 97 <= byte <= 122


def is_sign(byte):
    return is_letter(byte) or byte in SIGNS_BESIDE_LETTERS


# Each place that is kept still needs room for its ], and a [ needs room for its own one:
# so a sign is refused as soon as no row can begin with it, not where the row grows too long.
def may_follow(byte, signs_before, kept, turns):
    if byte == GO_BACK:
        return kept > 0
    if not is_sign(byte) or (byte == HALF_ROUND and turns % 2 == 1):
        return False
    room = LONGEST_ROW - signs_before - kept
    return room >= (2 if byte == KEEP else 1)


def kept_behind(byte, kept):
    if byte == KEEP:
        return kept + 1
    if byte == GO_BACK:
        return kept - 1
    return kept


# The first place from begin on at which what stands there no longer begins a row.
def row_end(text, begin, turns):
    kept = 0
    place = begin
    while place < len(text) and may_follow(text[place], place - begin, kept, turns):
        kept = kept_behind(text[place], kept)
        place += 1
    return place


# Of signs that begin a row: in such ones no ] comes too early, so it's enough to count.
def is_paired(signs):
    return signs.count(KEEP) == signs.count(GO_BACK)


def is_row(text, turns):
    return row_end(text, 0, turns) == len(text) and is_paired(text)
