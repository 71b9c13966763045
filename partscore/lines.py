"""Two staves on one: of each bar a label and up to two lines, and these parted again."""

from partscore.bars import bar_rests, bars_as_told, bars_numbers, read_bars, whole_rest

# The modes of two bars; those from FIRST to CHORDS are the labels, too.
NEITHER = 0
FIRST = 1
SECOND = 2
SAME = 3
CHORDS = 4
APART = 5

NO_LABEL = 0
MOST_LINES = 2


class LinedBar:
    """What stands on one in a bar: a label, or NO_LABEL, and the lines, each a bar."""

    def __init__(self, label, lines):
        self.label = label
        self.lines = lines


def read_lined_bar(reader):
    """Take what stands in a bar: its label, how many lines, they."""
    label = reader.take()
    return LinedBar(label, read_bars(reader))


def read_lined_bars(reader):
    """Take the bars of two on one: how many, then they."""
    return [read_lined_bar(reader) for turn in range(reader.take())]


def lined_bar_numbers(lined):
    """What stands in a bar, as a list that is answered."""
    return [lined.label, len(lined.lines)] + bars_numbers(lined.lines)


def items_chord(first, second):
    """Whether an item of the first's and one of the second's are two rests, or keys of a chord."""
    if first[0] != second[0]:
        return False
    if not first[1] and not second[1]:
        return True
    return len(first[1]) == 1 and len(second[1]) == 1 and first[1][0] > second[1][0]


def bars_chord(first, second):
    """Whether two bars can stand on one as chords, the first's key above the second's."""
    if len(first) != len(second):
        return False
    return all([items_chord(upper, lower) for upper, lower in zip(first, second)])


def mode_of(first, second):
    """The mode of two staves' bars: the first that's so."""
    if bar_rests(first) and bar_rests(second):
        return NEITHER
    if bar_rests(second):
        return FIRST
    if bar_rests(first):
        return SECOND
    if first == second:
        return SAME
    if bars_chord(first, second):
        return CHORDS
    return APART


def chords(first, second):
    """One line of two: each item with the second's key and the first's above it."""
    return [(upper[0], lower[1] + upper[1]) for upper, lower in zip(first, second)]


def lines_of(mode, first, second):
    """The lines that two bars of that mode are on one."""
    if mode == NEITHER:
        return []
    if mode == FIRST or mode == SAME:
        return [first]
    if mode == SECOND:
        return [second]
    if mode == CHORDS:
        return [chords(first, second)]
    return [first, second]


def label_of(mode, in_force):
    """The label that a bar of that mode needs behind the one that's in force."""
    if mode == NEITHER or mode == APART or mode == in_force:
        return NO_LABEL
    return mode


def put_on_one(first, second):
    """The bars of two staves on one."""
    lined_bars = []
    in_force = NO_LABEL
    for first_bar, second_bar in zip(first, second):
        mode = mode_of(first_bar, second_bar)
        label = label_of(mode, in_force)
        in_force = label or in_force
        lined_bars.append(LinedBar(label, lines_of(mode, first_bar, second_bar)))
    return lined_bars


def labels_in_force(lined_bars):
    """For each bar the label that's in force there, its own counted."""
    labels = []
    in_force = NO_LABEL
    for lined in lined_bars:
        in_force = lined.label or in_force
        labels.append(in_force)
    return labels


def may_be_chords(line):
    """Whether the line can be parted by its keys: each item has two or is a rest."""
    return all([len(keys) == 0 or len(keys) == 2 for length, keys in line])


def lined_bar_as_told(lined, in_force, bar_length):
    """Whether what stands in a bar of that length can be parted."""
    if len(lined.lines) > MOST_LINES or not bars_as_told(lined.lines, bar_length):
        return False
    if len(lined.lines) != 1:
        return lined.label == NO_LABEL
    if in_force == CHORDS:
        return may_be_chords(lined.lines[0])
    return in_force in (FIRST, SECOND, SAME)


def lined_bars_as_told(lined_bars, lengths):
    """Whether these can be parted in a score with bars of these lengths."""
    if len(lined_bars) != len(lengths):
        return False
    labels = labels_in_force(lined_bars)
    return all([
        lined_bar_as_told(lined, in_force, length)
        for lined, in_force, length in zip(lined_bars, labels, lengths)
    ])


def parted_line(line, in_force, bar_length):
    """The first's bar and the second's that the only line of a bar is."""
    if in_force == FIRST:
        return (line, whole_rest(bar_length))
    if in_force == SECOND:
        return (whole_rest(bar_length), line)
    if in_force == SAME:
        return (line, line)
    upper = [(length, keys[1:]) for length, keys in line]
    lower = [(length, keys[:1]) for length, keys in line]
    return (upper, lower)


def parted_bar(lined, in_force, bar_length):
    """The first's bar and the second's of what stands in a bar."""
    if not lined.lines:
        return (whole_rest(bar_length), whole_rest(bar_length))
    if len(lined.lines) == 1:
        return parted_line(lined.lines[0], in_force, bar_length)
    return (lined.lines[0], lined.lines[1])


def parted_bars(lined_bars, lengths):
    """For each bar the first's and the second's; all is as told."""
    labels = labels_in_force(lined_bars)
    return [
        parted_bar(lined, in_force, length)
        for lined, in_force, length in zip(lined_bars, labels, lengths)
    ]
