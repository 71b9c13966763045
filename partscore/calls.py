"""The calls on a score: each takes what it is told, and answers with numbers.

An answer is a list: the number that's answered, then each list that's answered,
behind how many numbers it has. A refusal is its number alone.
"""

from partscore.back import part_as_told, put_back, read_pieces
from partscore.bars import bar_as_told, bars_numbers, kept_bar, read_bars
from partscore.lines import lined_bar_numbers, lined_bars_as_told, parted_bars, put_on_one, read_lined_bars
from partscore.parts import drawn_out
from partscore.reading import Reader

MOST_BARS = 40
LONGEST_BAR = 64
MOST_BREAKS = 40
MOST_STAVES = 8


def with_lists(number, rows):
    """An answer of a number and these lists."""
    answer = [number]
    for row in rows:
        answer.append(len(row))
        answer.extend(row)
    return answer


def begins_as_told(lengths, breaks):
    """Whether a score may have bars of these lengths, and these breaks."""
    if len(lengths) > MOST_BARS or len(breaks) > MOST_BREAKS:
        return False
    for length in lengths:
        if length < 1 or length > LONGEST_BAR:
            return False
    for place in breaks:
        if place >= len(lengths):
            return False
    return True


def answer_begins(score, reader):
    """Begin a score anew: how many bars it has."""
    lengths = reader.take_row()
    breaks = reader.take_row()
    if not begins_as_told(lengths, breaks):
        return [-1]
    score.begin(lengths, breaks)
    return [len(lengths)]


def staff_as_told(bars, lengths):
    """Whether a score with bars of these lengths may have a staff of these bars."""
    if len(bars) != len(lengths):
        return False
    return all([bar_as_told(bar, length) for bar, length in zip(bars, lengths)])


def answer_staff(score, reader):
    """Add a staff: its number."""
    bars = read_bars(Reader(reader.take_row()))
    if not staff_as_told(bars, score.lengths):
        return [-1]
    if len(score.staves) >= MOST_STAVES:
        return [-5]
    kept = [kept_bar(bar, length) for bar, length in zip(bars, score.lengths)]
    return [score.add_staff(kept)]


def answer_staves(score, reader):
    """Show a staff: 0 and a list of its bars."""
    number = reader.take()
    if not score.has_staff(number):
        return [-2]
    return with_lists(0, [bars_numbers(score.staves[number])])


def answer_draw(score, reader):
    """Draw a part out: how many pieces, and each as a list."""
    least = reader.take()
    part = reader.take_row()
    for number in part:
        if not score.has_staff(number):
            return [-2]
    if not part or len(set(part)) < len(part):
        return [-1]
    pieces = drawn_out(score, part, least)
    return with_lists(len(pieces), pieces)


def answer_back(score, reader):
    """Put a part back: how many staves, and of each a list of its bars."""
    staff_count = reader.take()
    pieces = read_pieces(Reader(reader.take_row()))
    if staff_count < 1 or staff_count > MOST_STAVES or not part_as_told(score, staff_count, pieces):
        return [-1]
    staves = put_back(score, staff_count, pieces)
    return with_lists(staff_count, [bars_numbers(bars) for bars in staves])


def answer_two(score, reader):
    """Put two staves on one: how many bars, and each as a list."""
    first = reader.take()
    second = reader.take()
    if not score.has_staff(first) or not score.has_staff(second):
        return [-2]
    lined_bars = put_on_one(score.staves[first], score.staves[second])
    return with_lists(len(lined_bars), [lined_bar_numbers(lined) for lined in lined_bars])


def answer_parted(score, reader):
    """Part two on one again: how many bars, and of each of the two staves a list of its bars."""
    lined_bars = read_lined_bars(Reader(reader.take_row()))
    if not lined_bars_as_told(lined_bars, score.lengths):
        return [-1]
    pairs = parted_bars(lined_bars, score.lengths)
    first = [pair[0] for pair in pairs]
    second = [pair[1] for pair in pairs]
    return with_lists(len(pairs), [bars_numbers(first), bars_numbers(second)])


# In the order of the calls' numbers.
CALLS = (
    answer_begins, answer_staff, answer_staves, answer_draw, answer_back, answer_two, answer_parted,
)


def answer_call(score, reader):
    """Take the next call and answer it."""
    number = reader.take()
    return CALLS[number](score, reader)
