"""Calls told as lists of numbers, and answers taken apart, for the tests."""

from partscore.score import answers


def begins(lengths, breaks=()):
    return [0, len(lengths), *lengths, len(breaks), *breaks]


def staff(*bars):
    row = [len(bars)]
    for bar in bars:
        row += bar
    return [1, len(row), *row]


def staves(number):
    return [2, number]


def draw(part, least=0):
    return [3, least, len(part), *part]


def back(count, *pieces):
    """A call of back for pieces as they are handed in: rest_piece, told_bars, cue_piece."""
    row = [len(pieces)]
    for piece in pieces:
        row += piece
    return [4, count, len(row), *row]


def two(first, second):
    return [5, first, second]


def parted(*lined_bars):
    """A call of parted for bars told by lined."""
    row = [len(lined_bars)]
    for lined_bar in lined_bars:
        row += lined_bar
    return [6, len(row), *row]


def bar(*items):
    """A bar of items, each told as its length and its keys."""
    numbers = [len(items)]
    for length, *keys in items:
        numbers += [length, len(keys), *keys]
    return numbers


def rest(length):
    return bar((length,))


def note(length, key=60):
    return bar((length, key))


def ask(*calls):
    """The answers to these calls, a list each."""
    told = answers([number for call in calls for number in call])
    taken = []
    place = 0
    while place < len(told):
        count = told[place]
        taken.append(told[place + 1:place + 1 + count])
        place += 1 + count
    assert place == len(told), "the last count goes beyond the answers' end"
    assert len(taken) == len(calls), "not one answer for each call"
    return taken


def shown(*bars):
    """What staves answers for a staff that has these bars."""
    row = [number for bar_told in bars for number in bar_told]
    return [0, len(row), *row]


def drawn(*pieces):
    """What draw answers for these pieces."""
    return lists(len(pieces), *pieces)


def rest_piece(count):
    return [0, count]


def bar_piece(*bars):
    return [1] + [number for bar_told in bars for number in bar_told]


def cue_piece(number, cue_bar):
    return [2, number, *cue_bar]


def told_bars(*bars):
    """A piece 1 as it's handed in: with how many bars ahead of them."""
    return [1, len(bars)] + [number for bar_told in bars for number in bar_told]


def lined(label, *lines):
    """What stands in a bar of two on one."""
    return [label, len(lines)] + [number for line in lines for number in line]


def lists(number, *rows):
    """An answer of a number and these lists."""
    answer = [number]
    for row in rows:
        answer += [len(row), *row]
    return answer


def on_one(*lined_bars):
    """What two answers for bars told by lined."""
    return lists(len(lined_bars), *lined_bars)


def staff_lists(number, *staffs):
    """An answer of a number and of staves, each a list of its bars."""
    return lists(number, *[[number for bar_told in bars for number in bar_told] for bars in staffs])


def rows_of(answer):
    """The lists of an answer that begins with another number."""
    rows = []
    place = 1
    while place < len(answer):
        rows.append(answer[place + 1:place + 1 + answer[place]])
        place += 1 + answer[place]
    return rows


def pieces_of(answer, count):
    """The pieces that draw answered for so many staves, as back is told them."""
    return [[1, count, *row[1:]] if row[0] == 1 else row for row in rows_of(answer)]
