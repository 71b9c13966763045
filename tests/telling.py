"""Calls told as lists of numbers, and answers taken apart, for the tests."""

from partscore.score import answers


def begins(lengths, breaks=()):
    return [0, len(lengths), *lengths, len(breaks), *breaks]


def staff(*bars):
    row = [len(bars)]
    for bar in bars:
        row += bar
    return [1, len(row), *row]


def staves(number):
    return [2, number]


def draw(part, least=0):
    return [3, least, len(part), *part]


def bar(*items):
    """A bar of items, each told as its length and its keys."""
    numbers = [len(items)]
    for length, *keys in items:
        numbers += [length, len(keys), *keys]
    return numbers


def rest(length):
    return bar((length,))


def note(length, key=60):
    return bar((length, key))


def ask(*calls):
    """The answers to these calls, a list each."""
    told = answers([number for call in calls for number in call])
    taken = []
    place = 0
    while place < len(told):
        count = told[place]
        taken.append(told[place + 1:place + 1 + count])
        place += 1 + count
    assert place == len(told), "the last count goes beyond the answers' end"
    assert len(taken) == len(calls), "not one answer for each call"
    return taken


def shown(*bars):
    """What staves answers for a staff that has these bars."""
    row = [number for bar_told in bars for number in bar_told]
    return [0, len(row), *row]


def drawn(*pieces):
    """What draw answers for these pieces."""
    answer = [len(pieces)]
    for piece in pieces:
        answer += [len(piece), *piece]
    return answer


def rest_piece(count):
    return [0, count]


def bar_piece(*bars):
    return [1] + [number for bar_told in bars for number in bar_told]


def cue_piece(number, cue_bar):
    return [2, number, *cue_bar]
