"""Putting a part back: the staves that its pieces were drawn from."""

from partscore.bars import bar_rests, bars_as_told, kept_bar, read_bar, read_bars, whole_rest
from partscore.parts import BAR, REST


class Piece:
    """A piece that's told: its kind, how many of the score's bars it is, and the bars in it.

    The bars are a piece 1's, one for each staff, or the cue of a piece 2.
    """

    def __init__(self, kind, bar_count, bars):
        self.kind = kind
        self.bar_count = bar_count
        self.bars = bars


def read_piece(reader):
    """Take a piece: 0 and how many bars; 1, how many bars, they; or 2, a staff, its bar."""
    kind = reader.take()
    if kind == REST:
        return Piece(kind, reader.take(), [])
    if kind == BAR:
        return Piece(kind, 1, read_bars(reader))
    # Whose bar the cue is changes nothing, so a staff that isn't there may be told.
    reader.take()
    return Piece(kind, 1, [read_bar(reader)])


def read_pieces(reader):
    """Take pieces: how many, then they."""
    return [read_piece(reader) for turn in range(reader.take())]


def goes_over_break(score, start, end):
    """Whether there's a break between the bars from start up to the one ahead of end."""
    for place in score.breaks:
        if start < place and place < end:
            return True
    return False


def piece_as_told(score, staff_count, piece, place):
    """Whether a part of that many staves may have this piece from that place on."""
    end = place + piece.bar_count
    if end == place or end > len(score.lengths):
        return False
    if not bars_as_told(piece.bars, score.lengths[place]):
        return False
    if piece.kind == REST:
        return not goes_over_break(score, place, end)
    if piece.kind == BAR:
        return len(piece.bars) == staff_count and not all([bar_rests(bar) for bar in piece.bars])
    return True


def part_as_told(score, staff_count, pieces):
    """Whether these are a part of that many staves, from the score's first bar to its last."""
    place = 0
    for piece in pieces:
        if not piece_as_told(score, staff_count, piece, place):
            return False
        place += piece.bar_count
    return place == len(score.lengths)


def put_back(score, staff_count, pieces):
    """The bars of each staff that the pieces, which are as told, were drawn from."""
    return [staff_put_back(score, pieces, number) for number in range(staff_count)]


def staff_put_back(score, pieces, number):
    """The bars of the staff that's at that place in the part."""
    bars = []
    for piece in pieces:
        for turn in range(piece.bar_count):
            length = score.lengths[len(bars)]
            if piece.kind == BAR:
                bars.append(kept_bar(piece.bars[number], length))
            else:
                bars.append(whole_rest(length))
    return bars
