"""Drawing a part, a list of staves' numbers in order, out of a score."""

from partscore.bars import bar_numbers, bar_rests, bars_numbers

REST = 0
BAR = 1
CUED_BAR = 2


def drawn_out(score, part, least):
    """The part's pieces, each as a list of numbers."""
    pieces = []
    place = 0
    while place < len(score.lengths):
        end = rest_end(score, part, place)
        if end == place:
            pieces.append(bar_piece(score, part, place))
            place += 1
        else:
            pieces.extend(rest_pieces(score, part, place, end, least))
            place = end
    return pieces


def part_rests(score, part, place):
    """Whether all the part's staves rest in the bar at that place."""
    for number in part:
        if not bar_rests(score.staves[number][place]):
            return False
    return True


def rest_end(score, part, start):
    """The place behind the rest that starts there; the start itself if none does."""
    end = start
    while end < len(score.lengths) and part_rests(score, part, end):
        # A break ahead of the rest's own first bar doesn't end it.
        if end > start and end in score.breaks:
            return end
        end += 1
    return end


def bar_piece(score, part, place):
    """The piece of a bar that doesn't rest: the bar of all the part's staves."""
    return [BAR] + bars_numbers([score.staves[number][place] for number in part])


def rest_pieces(score, part, start, end, least):
    """The pieces of the rest from start up to the bar ahead of end."""
    count = end - start
    cue = None
    if least != 0 and count >= least:
        cue = cue_staff(score, part, end - 1)
    if cue is None:
        return [[REST, count]]
    cued = [CUED_BAR, cue] + bar_numbers(score.staves[cue][end - 1])
    if count == 1:
        return [cued]
    return [[REST, count - 1], cued]


def cue_staff(score, part, place):
    """The first staff, by numbers, outside the part that sounds in that bar, or None."""
    for number, bars in enumerate(score.staves):
        if number not in part and not bar_rests(bars[place]):
            return number
    return None
