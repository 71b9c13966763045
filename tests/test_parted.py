"""Promise 6: parted."""

import itertools
import unittest

from telling import (
    ask, bar, begins, draw, lined, note, parted, rest, rows_of, shown, staff, staff_lists, staves, two,
)


def parting(lengths, *lined_bars):
    """What parted answers, in a score of these bars that has no staves."""
    return ask(begins(lengths), parted(*lined_bars))[1]


def both(first, second):
    """What parted answers for two staves of these bars."""
    return staff_lists(len(first), first, second)


class Parted(unittest.TestCase):
    def check(self, lengths, lined_bars, first, second):
        self.assertEqual(parting(lengths, *lined_bars), both(first, second))

    def test_a_bar_without_lines(self):
        self.check([4, 3], [lined(0), lined(0)], [rest(4), rest(3)], [rest(4), rest(3)])

    def test_two_lines(self):
        first = bar((1, 60), (3, 62, 64))
        self.check([4], [lined(0, first, note(4))], [first], [note(4)])

    def test_label_1(self):
        told = bar((1,), (1, 60, 64), (2, 62))
        self.check([4], [lined(1, told)], [told], [rest(4)])

    def test_label_2(self):
        told = bar((1,), (1, 60, 64), (2, 62))
        self.check([4], [lined(2, told)], [rest(4)], [told])

    def test_label_3(self):
        told = bar((1,), (1, 60, 64), (2, 62))
        self.check([4], [lined(3, told)], [told], [told])

    def test_label_4(self):
        self.check(
            [4], [lined(4, bar((1,), (1, 60, 64), (2, 0, 127)))],
            [bar((1,), (1, 64), (2, 127))], [bar((1,), (1, 60), (2, 0))])

    def test_bars_of_unlike_lengths(self):
        self.check(
            [4, 3, 5], [lined(1, note(4)), lined(2, note(3)), lined(0)],
            [note(4), rest(3), rest(5)], [rest(4), note(3), rest(5)])

    def test_no_bars_at_all(self):
        self.assertEqual(parting([]), [0, 0, 0])
        self.assertEqual(ask(parted()), [[0, 0, 0]])

    def test_as_plain_numbers(self):
        calls = [
            [0, 3, 4, 4, 4, 0],
            [6, 21, 3, 4, 1, 2, 3, 2, 60, 64, 1, 0, 0, 2, 1, 4, 1, 60, 1, 4, 0, 0, 0],
        ]
        self.assertEqual(
            ask(*calls)[1],
            [3, 13, 2, 3, 1, 64, 1, 0, 1, 4, 1, 60, 1, 4, 0, 12, 2, 3, 1, 60, 1, 0, 1, 4, 0, 1, 4, 0])

    def test_forty_bars(self):
        bars = [note(4, place) for place in range(40)]
        self.check([4] * 40, [lined(1, told) for told in bars], bars, [rest(4)] * 40)


class LabelsInForce(unittest.TestCase):
    def check(self, lined_bars, first, second):
        self.assertEqual(parting([4] * len(lined_bars), *lined_bars), both(first, second))

    def test_over_later_bars(self):
        self.check([lined(1, note(4)), lined(0, note(4, 61))], [note(4), note(4, 61)], [rest(4)] * 2)
        self.check([lined(2, note(4)), lined(0, note(4, 61))], [rest(4)] * 2, [note(4), note(4, 61)])
        self.check([lined(3, note(4)), lined(0, note(4, 61))], *[[note(4), note(4, 61)]] * 2)
        self.check(
            [lined(4, bar((4, 60, 64))), lined(0, bar((4, 61, 65)))],
            [note(4, 64), note(4, 65)], [note(4, 60), note(4, 61)])

    def test_the_last_one_told(self):
        self.check(
            [lined(1, note(4, 1)), lined(2, note(4, 2)), lined(0, note(4, 3)), lined(3, note(4, 4))],
            [note(4, 1), rest(4), rest(4), note(4, 4)], [rest(4), note(4, 2), note(4, 3), note(4, 4)])

    def test_its_own_label_is_counted(self):
        self.check(
            [lined(1, note(4)), lined(4, bar((4, 60, 64)))], [note(4), note(4, 64)], [rest(4), note(4, 60)])

    def test_the_label_written_out_each_time(self):
        for label in (1, 2, 3):
            with self.subTest(label=label):
                written = parting([4] * 3, *[lined(label, note(4, key)) for key in range(3)])
                once = parting([4] * 3, lined(label, note(4, 0)), lined(0, note(4, 1)), lined(0, note(4, 2)))
                self.assertEqual(written, once)
        chords = [bar((4, 60, 64)), bar((2, 61, 65), (2,))]
        self.check(
            [lined(4, told) for told in chords],
            [note(4, 64), bar((2, 65), (2,))], [note(4, 60), bar((2, 61), (2,))])

    def test_over_bars_without_lines(self):
        self.check(
            [lined(2, note(4)), lined(0), lined(0), lined(0, note(4, 61))],
            [rest(4)] * 4, [note(4), rest(4), rest(4), note(4, 61)])

    def test_over_bars_with_two_lines(self):
        self.check(
            [lined(2, note(4)), lined(0, note(4, 1), note(4, 2)), lined(0, note(4, 61))],
            [rest(4), note(4, 1), rest(4)], [note(4), note(4, 2), note(4, 61)])

    def test_chords_over_bars_without_lines_and_with_two(self):
        odd = bar((4, 1, 2, 3))
        self.check(
            [lined(4, bar((4, 60, 64))), lined(0, odd, note(4, 2)), lined(0), lined(0, bar((4, 61, 65)))],
            [note(4, 64), odd, rest(4), note(4, 65)], [note(4, 60), note(4, 2), rest(4), note(4, 61)])

    def test_the_first_label_behind_bars_without_one(self):
        self.check(
            [lined(0), lined(0, note(4, 1), note(4, 2)), lined(3, note(4))],
            [rest(4), note(4, 1), note(4)], [rest(4), note(4, 2), note(4)])


class Rests(unittest.TestCase):
    """What rests by the label has one rest; lines that are told stay as they're told."""

    told = bar((1,), (3,))

    def test_two_lines_that_rest_by_several_items(self):
        other = bar((2,), (1,), (1,))
        self.assertEqual(parting([4], lined(0, self.told, other)), both([self.told], [other]))

    def test_one_of_two_lines(self):
        self.assertEqual(parting([4], lined(0, self.told, note(4))), both([self.told], [note(4)]))
        self.assertEqual(parting([4], lined(0, rest(4), self.told)), both([rest(4)], [self.told]))

    def test_with_label_1(self):
        self.assertEqual(parting([4], lined(1, self.told)), both([self.told], [rest(4)]))

    def test_with_label_2(self):
        self.assertEqual(parting([4], lined(2, self.told)), both([rest(4)], [self.told]))

    def test_with_label_3(self):
        self.assertEqual(parting([4], lined(3, self.told)), both([self.told], [self.told]))

    def test_with_label_4(self):
        self.assertEqual(parting([4], lined(4, self.told)), both([self.told], [self.told]))

    def test_told_by_one_rest(self):
        for label in (1, 2, 3, 4):
            self.assertEqual(parting([4], lined(label, rest(4))), both([rest(4)], [rest(4)]))


class HowManyBars(unittest.TestCase):
    def test_fewer_than_the_score(self):
        self.assertEqual(parting([4]), [-1])
        self.assertEqual(parting([4, 4], lined(0)), [-1])
        self.assertEqual(parting([4] * 40, *[lined(3, note(4))] * 39), [-1])

    def test_more_than_the_score(self):
        self.assertEqual(parting([], lined(0)), [-1])
        self.assertEqual(parting([4], lined(0), lined(0)), [-1])
        self.assertEqual(parting([4] * 40, *[lined(0)] * 60), [-1])
        self.assertEqual(parting([4], lined(1, note(4)), lined(0, note(4))), [-1])


# Lines that aren't bars as told, in a score's bar 4 long.
WRONG_LINES = (
    bar(), bar((4, 60, 61), (0, 62, 63)), bar((0,), (4, 60, 61)), bar((1, 60, 61), (2, 62, 63)),
    bar((3, 60, 61)), bar((5, 60, 61)), bar((4294967295, 60, 61)), bar(*[(1, 60, 61)] * 21),
    bar((4, 0, 1, 2, 3, 4, 5, 6)), bar((4, 64, 60)), bar((4, 60, 60)), bar((4, 127, 128)),
    bar((4, 60, 4294967295)), rest(3), rest(5), bar((4,), (0,)),
)


class Lines(unittest.TestCase):
    def test_each_way_that_a_line_is_not_a_bar_as_told(self):
        for wrong in WRONG_LINES:
            with self.subTest(wrong=wrong):
                for label in (1, 2, 3, 4):
                    self.assertEqual(parting([4], lined(label, wrong)), [-1])
                self.assertEqual(parting([4], lined(0, wrong, note(4))), [-1])
                self.assertEqual(parting([4], lined(0, note(4), wrong)), [-1])
                self.assertEqual(parting([4, 4], lined(1, note(4)), lined(0, wrong)), [-1])

    def test_twenty_one_items_as_long_as_the_bar(self):
        wrong = bar(*[(1, 60, 61)] * 21)
        for label in (1, 2, 3, 4):
            self.assertEqual(parting([21], lined(label, wrong)), [-1])
        self.assertEqual(parting([21], lined(0, note(21), wrong)), [-1])

    def test_the_most_that_a_line_may_have(self):
        full = bar(*[(1, 0, 1, 2, 3, 4, 127)] * 20)
        self.assertEqual(parting([20], lined(0, full, full)), both([full], [full]))

    def test_each_line_is_held_against_its_own_bar(self):
        self.assertEqual(parting([3, 4], lined(1, note(4)), lined(0, note(3))), [-1])
        self.assertEqual(
            parting([3, 4], lined(0), lined(1, note(4))), both([rest(3), note(4)], [rest(3), rest(4)]))

    def test_three_lines(self):
        self.assertEqual(parting([4], lined(0, *[note(4)] * 3)), [-1])
        self.assertEqual(parting([4], lined(1, *[note(4)] * 3)), [-1])
        self.assertEqual(parting([4], lined(0, *[rest(4)] * 3)), [-1])
        self.assertEqual(parting([4, 4], lined(1, note(4)), lined(0, *[note(4)] * 3)), [-1])

    def test_sixty_lines(self):
        self.assertEqual(parting([4], lined(0, *[note(4)] * 60)), [-1])


class Labels(unittest.TestCase):
    def test_a_bar_without_lines_has_a_label(self):
        for label in (1, 2, 3, 4, 5, 4294967295):
            self.assertEqual(parting([4], lined(label)), [-1])
            self.assertEqual(parting([4, 4], lined(1, note(4)), lined(label)), [-1])

    def test_two_lines_have_a_label(self):
        for label in (1, 2, 3, 4, 5, 4294967295):
            self.assertEqual(parting([4], lined(label, note(4), note(4))), [-1])
            self.assertEqual(parting([4, 4], lined(1, note(4)), lined(label, note(4), note(4))), [-1])

    def test_two_lines_of_two_keys_with_label_4(self):
        self.assertEqual(parting([4], lined(4, *[bar((4, 60, 64))] * 2)), [-1])

    def test_one_line_where_no_label_is_in_force(self):
        self.assertEqual(parting([4], lined(0, note(4))), [-1])
        self.assertEqual(parting([4], lined(0, rest(4))), [-1])
        self.assertEqual(parting([4], lined(0, bar((4, 60, 64)))), [-1])
        self.assertEqual(parting([4] * 3, lined(0), lined(0, note(4), note(4)), lined(0, note(4))), [-1])

    def test_a_label_that_comes_later(self):
        self.assertEqual(parting([4, 4], lined(0, note(4)), lined(1, note(4))), [-1])

    def test_labels_above_4(self):
        for label in (5, 6, 60, 4294967295):
            with self.subTest(label=label):
                for told in (note(4), rest(4), bar((4, 60, 64))):
                    self.assertEqual(parting([4], lined(label, told)), [-1])
                    self.assertEqual(parting([4, 4], lined(1, note(4)), lined(label, told)), [-1])
                    self.assertEqual(parting([4, 4], lined(label, told), lined(0, told)), [-1])
                    self.assertEqual(parting([4, 4], lined(label, told), lined(1, note(4))), [-1])

    def test_labels_1_to_4_at_a_later_bar(self):
        first = {1: note(4, 64), 2: rest(4), 3: note(4, 64)}
        second = {1: rest(4), 2: note(4, 64), 3: note(4, 64)}
        for label in (1, 2, 3):
            self.assertEqual(
                parting([4, 4], lined(0), lined(label, note(4, 64))),
                both([rest(4), first[label]], [rest(4), second[label]]))
        self.assertEqual(
            parting([4, 4], lined(0), lined(4, bar((4, 60, 64)))),
            both([rest(4), note(4, 64)], [rest(4), note(4, 60)]))

    def test_a_label_of_another_call_is_not_in_force(self):
        calls = [begins([4]), parted(lined(1, note(4))), parted(lined(0, note(4)))]
        self.assertEqual(ask(*calls)[2], [-1])

    def test_a_break_leaves_it_in_force(self):
        calls = [begins([4, 4], [0, 1]), parted(lined(2, note(4)), lined(0, note(4)))]
        self.assertEqual(ask(*calls)[1], both([rest(4)] * 2, [note(4)] * 2))


class Chords(unittest.TestCase):
    def test_an_item_of_two_keys(self):
        self.assertEqual(parting([4], lined(4, bar((4, 60, 61)))), both([note(4, 61)], [note(4, 60)]))

    def test_an_item_of_no_key(self):
        self.assertEqual(
            parting([4], lined(4, bar((1,), (3, 60, 61)))),
            both([bar((1,), (3, 61))], [bar((1,), (3, 60))]))

    def test_an_item_of_one_key(self):
        self.assertEqual(parting([4], lined(4, note(4))), [-1])
        self.assertEqual(parting([4], lined(4, bar((2, 60, 61), (2, 60)))), [-1])

    def test_an_item_of_three_keys_and_more(self):
        for count in (3, 4, 5, 6):
            self.assertEqual(parting([4], lined(4, bar((4, *range(count))))), [-1])
            self.assertEqual(parting([4], lined(4, bar((2, *range(count)), (2, 60, 61)))), [-1])

    def test_where_4_is_in_force_from_before(self):
        ahead = lined(4, bar((4, 60, 64)))
        for wrong in (note(4), bar((4, 1, 2, 3)), bar((2, 1, 2), (2, 3))):
            self.assertEqual(parting([4, 4], ahead, lined(0, wrong)), [-1])
            self.assertEqual(parting([4, 4, 4], ahead, lined(0), lined(0, wrong)), [-1])

    def test_another_label_behind_4(self):
        self.assertEqual(
            parting([4, 4], lined(4, bar((4, 60, 64))), lined(3, note(4))),
            both([note(4, 64), note(4)], [note(4, 60), note(4)]))

    def test_4_behind_another_label(self):
        self.assertEqual(parting([4, 4], lined(3, note(4)), lined(4, note(4))), [-1])

    def test_keys_of_any_number_with_other_labels(self):
        for told in (note(4), bar((4, 1, 2, 3)), bar((2, 1, 2, 3, 4, 5, 6), (2,))):
            self.assertEqual(parting([4], lined(3, told)), both([told], [told]))


# Bars of a score's bar 4 long that make all the modes with one another.
BARS = (
    rest(4), note(4, 60), note(4, 64), bar((2, 60), (2,)), bar((2, 64), (2,)), bar((2,), (2, 64)),
    bar((4, 60, 64)), bar((2, 64), (2, 60)),
)


class PutOnOneAndParted(unittest.TestCase):
    def check(self, lengths, first, second):
        ahead = [begins(lengths), staff(*first), staff(*second)]
        answer = ask(*ahead, two(0, 1))[3]
        told = parted(*rows_of(answer))
        self.assertEqual(ask(*ahead, told, staves(0), staves(1))[3:], [
            both(first, second), shown(*first), shown(*second),
        ])

    def test_each_mode(self):
        for first, second in itertools.product(BARS, repeat=2):
            with self.subTest(first=first, second=second):
                self.check([4], [first], [second])

    def test_two_bars_behind_one_another(self):
        pairs = list(itertools.product(BARS, repeat=2))
        for one, other in itertools.product(pairs, repeat=2):
            with self.subTest(one=one, other=other):
                self.check([4, 4], [one[0], other[0]], [one[1], other[1]])

    def test_all_modes_in_one_staff(self):
        first = [note(4, 64), rest(3), rest(2), note(5, 64), bar((3, 64), (3,)), note(1, 60), note(4, 65)]
        second = [rest(4), rest(3), note(2, 60), note(5, 64), bar((3, 60), (3,)), note(1, 64), note(4, 60)]
        self.check([4, 3, 2, 5, 6, 1, 4], first, second)

    def test_a_staff_with_itself(self):
        told = [note(4), rest(4), bar((1, 60, 64), (3,))]
        ahead = [begins([4] * 3), staff(*told)]
        answer = ask(*ahead, two(0, 0))[2]
        self.assertEqual(ask(*ahead, parted(*rows_of(answer)))[2], both(told, told))

    def test_a_score_without_bars(self):
        self.check([], [], [])


class TheScoreBehindIt(unittest.TestCase):
    def check(self, told, wanted):
        first = [note(4, 50), rest(3)]
        ahead = [begins([4, 3], [1]), staff(*first)]
        behind = [staves(0), staves(1), draw([0]), two(0, 0), staff(rest(4), note(3)), staves(1)]
        taken = ask(*ahead, told, *behind)
        self.assertEqual(taken[2], wanted)
        self.assertEqual(taken[3], shown(*first))
        self.assertEqual(taken[4], [-2])
        self.assertEqual(taken[3:], ask(*ahead, *behind)[2:])
        self.assertEqual(taken[7:], [[1], shown(rest(4), note(3))])

    def test_parted(self):
        self.check(parted(lined(1, note(4)), lined(0, note(3))), both([note(4), note(3)], [rest(4), rest(3)]))

    def test_refused(self):
        for told in (
                parted(), parted(lined(0)), parted(lined(0), lined(0), lined(0)),
                parted(lined(1, note(4)), lined(0, note(4))), parted(lined(0), lined(1)),
                parted(lined(0), lined(0, *[note(3)] * 3)), parted(lined(0), lined(0, note(3))),
                parted(lined(5, note(4)), lined(0)), parted(lined(4, note(4)), lined(0))):
            with self.subTest(told=told):
                self.check(told, [-1])


if __name__ == "__main__":
    unittest.main()
