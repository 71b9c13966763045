"""A bar: a list of items, each a tuple of how long it is and a list of its keys."""

MOST_ITEMS = 20
MOST_KEYS = 6
HIGHEST_KEY = 127


def read_bar(reader):
    """Take a bar: how many items, then of each how long, how many keys, they."""
    bar = []
    for turn in range(reader.take()):
        length = reader.take()
        bar.append((length, reader.take_row()))
    return bar


def read_bars(reader):
    """Take bars: how many, then they."""
    return [read_bar(reader) for turn in range(reader.take())]


def bar_numbers(bar):
    """The bar as it stands in a list that is answered."""
    numbers = [len(bar)]
    for length, keys in bar:
        numbers.append(length)
        numbers.append(len(keys))
        numbers.extend(keys)
    return numbers


def bars_numbers(bars):
    """Bars as they stand one behind another in a list that is answered."""
    numbers = []
    for bar in bars:
        numbers.extend(bar_numbers(bar))
    return numbers


def keys_as_told(keys):
    """Whether an item may have these keys: not too many, rising, none too high."""
    if len(keys) > MOST_KEYS:
        return False
    lowest = 0
    for key in keys:
        if key < lowest or key > HIGHEST_KEY:
            return False
        lowest = key + 1
    return True


def bar_as_told(bar, bar_length):
    """Whether a score's bar of that length may be this one."""
    if len(bar) > MOST_ITEMS:
        return False
    total = 0
    for length, keys in bar:
        if length < 1 or not keys_as_told(keys):
            return False
        total += length
    return total == bar_length


def bars_as_told(bars, bar_length):
    """Whether a score's bar of that length may be each of these."""
    return all([bar_as_told(bar, bar_length) for bar in bars])


def bar_rests(bar):
    """Whether all the bar's items are rests."""
    for length, keys in bar:
        if keys:
            return False
    return True


def whole_rest(bar_length):
    """A bar of that length told by one rest."""
    return [(bar_length, [])]


def kept_bar(bar, bar_length):
    """The bar as a staff has it: one that rests is told by one rest."""
    if bar_rests(bar):
        return whole_rest(bar_length)
    return bar
