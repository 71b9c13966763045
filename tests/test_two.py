"""Promise 5: two."""

import itertools
import unittest

from telling import (
    ask, bar, bar_piece, begins, draw, drawn, lined, note, on_one, rest, rows_of, shown, staff, staves, two,
)


def length_of(told):
    """How long a told bar's items are together."""
    total = 0
    place = 1
    for turn in range(told[0]):
        total += told[place]
        place += 2 + told[place + 1]
    return total


def putting(first, second, breaks=()):
    """What two answers for two staves of these bars."""
    lengths = [length_of(told) for told in first]
    return ask(begins(lengths, breaks), staff(*first), staff(*second), two(0, 1))[3]


class OneBar(unittest.TestCase):
    def check(self, first, second, *wanted):
        self.assertEqual(putting([first], [second]), on_one(lined(*wanted)))

    def test_mode_0_both_rest(self):
        self.check(rest(4), rest(4), 0)

    def test_mode_1_the_second_rests(self):
        first = bar((1,), (1, 60, 64), (2, 62))
        self.check(first, rest(4), 1, first)
        self.check(note(4), rest(4), 1, note(4))

    def test_mode_2_the_first_rests(self):
        second = bar((1,), (1, 60, 64), (2, 62))
        self.check(rest(4), second, 2, second)
        self.check(rest(4), note(4), 2, note(4))

    def test_mode_3_they_are_the_same(self):
        same = bar((1,), (1, 60, 64), (2, 62))
        self.check(same, same, 3, same)

    def test_mode_4_chords(self):
        self.check(note(4, 64), note(4, 60), 4, bar((4, 60, 64)))
        self.check(
            bar((1, 64), (3, 67)), bar((1, 60), (3, 66)), 4, bar((1, 60, 64), (3, 66, 67)))

    def test_mode_5_else(self):
        first = bar((1, 60), (3, 62))
        self.check(first, note(4), 0, first, note(4))

    def test_as_plain_numbers(self):
        calls = [
            [0, 2, 4, 4, 0],
            [1, 12, 2, 2, 3, 1, 64, 1, 0, 2, 2, 0, 2, 0],
            [1, 13, 2, 2, 3, 1, 60, 1, 0, 2, 1, 1, 5, 3, 0],
            [5, 0, 1],
        ]
        self.assertEqual(ask(*calls)[3], [2, 9, 4, 1, 2, 3, 2, 60, 64, 1, 0, 8, 2, 1, 2, 1, 1, 5, 3, 0])


class ModesInOrder(unittest.TestCase):
    def check(self, first, second, *wanted):
        self.assertEqual(putting([first], [second]), on_one(lined(*wanted)))

    def test_both_rest_though_they_are_the_same_and_each_rests(self):
        self.check(rest(4), rest(4), 0)
        self.check(bar((2,), (2,)), bar((2,), (2,)), 0)
        self.check(bar((2,), (2,)), bar((1,), (3,)), 0)

    def test_the_first_rests_and_the_second_too_told_by_several_items(self):
        self.check(rest(4), bar((1,), (3,)), 0)
        self.check(bar((1,), (3,)), rest(4), 0)

    def test_one_rests_by_several_items(self):
        self.check(bar((2,), (2,)), note(4), 2, note(4))
        self.check(note(4), bar((2,), (2,)), 1, note(4))
        self.check(bar((2,), (2,)), bar((2,), (2, 60)), 2, bar((2,), (2, 60)))

    def test_the_same_with_one_key_each(self):
        same = bar((2, 60), (1,), (1, 62))
        self.check(same, same, 3, same)
        self.check(note(4), note(4), 3, note(4))

    def test_the_same_keys_and_other_lengths_are_not_the_same(self):
        first = bar((1, 60), (3, 62))
        second = bar((3, 60), (1, 62))
        self.check(first, second, 0, first, second)

    def test_one_line_goes_ahead_of_chords(self):
        self.check(bar((2, 64), (2,)), rest(4), 1, bar((2, 64), (2,)))


class Chords(unittest.TestCase):
    def chords(self, first, second, chords):
        self.assertEqual(putting([first], [second]), on_one(lined(4, chords)))

    def apart(self, first, second):
        self.assertEqual(putting([first], [second]), on_one(lined(0, first, second)))

    def test_rests_in_both_at_the_same_places(self):
        self.chords(
            bar((1,), (1, 64), (1,), (1, 65)), bar((1,), (1, 60), (1,), (1, 61)),
            bar((1,), (1, 60, 64), (1,), (1, 61, 65)))

    def test_a_rest_in_one_alone(self):
        self.apart(bar((2, 64), (2,)), bar((2, 60), (2, 61)))
        self.apart(bar((2, 64), (2, 65)), bar((2, 60), (2,)))
        self.apart(bar((2, 64), (2,)), bar((2,), (2, 60)))

    def test_two_keys_in_an_item(self):
        self.apart(note(4, 72), bar((4, 60, 64)))
        self.apart(bar((4, 64, 72)), note(4, 60))
        self.apart(bar((4, 64, 72)), bar((4, 60, 62)))
        self.apart(bar((2, 72), (2, 64, 72)), bar((2, 60), (2, 60, 62)))

    def test_unlike_lengths(self):
        self.apart(bar((1, 64), (3, 65)), bar((3, 60), (1, 61)))
        self.apart(bar((1, 64), (2, 65), (1, 66)), bar((1, 60), (1, 61), (2, 62)))

    def test_rests_of_unlike_lengths(self):
        self.apart(bar((1,), (2,), (1, 64)), bar((2,), (1,), (1, 60)))

    def test_unlike_numbers_of_items(self):
        self.apart(note(4, 64), bar((2, 60), (2, 61)))
        self.apart(bar((2, 64), (2, 65)), note(4, 60))
        self.apart(bar((2, 64), (1, 65), (1,)), bar((2, 60), (2, 61)))
        self.apart(bar((2, 64), (2,)), bar((2, 60), (1,), (1,)))

    def test_the_firsts_key_the_higher_by_one(self):
        self.chords(note(4, 61), note(4, 60), bar((4, 60, 61)))
        self.chords(note(4, 1), note(4, 0), bar((4, 0, 1)))
        self.chords(note(4, 127), note(4, 0), bar((4, 0, 127)))

    def test_the_firsts_key_the_same_in_one_item(self):
        self.apart(bar((2, 64), (2, 60)), bar((2, 60), (2, 60)))
        self.apart(bar((2, 60), (2, 64)), bar((2, 60), (2, 60)))

    def test_the_firsts_key_the_lower(self):
        self.apart(note(4, 60), note(4, 61))
        self.apart(bar((2, 64), (2, 60)), bar((2, 60), (2, 64)))
        self.apart(bar((2, 60), (2, 64)), bar((2, 64), (2, 60)))

    def test_twenty_items(self):
        self.chords(
            bar(*[(1, 100 + place) for place in range(20)]), bar(*[(1, place) for place in range(20)]),
            bar(*[(1, place, 100 + place) for place in range(20)]))


# A first's and a second's bar of each mode, 4 long.
PAIRS = (
    (rest(4), rest(4)),
    (note(4, 64), rest(4)),
    (rest(4), note(4, 60)),
    (note(4, 62), note(4, 62)),
    (note(4, 65), note(4, 61)),
    (note(4, 60), note(4, 65)),
)
LINES = (
    (), (note(4, 64),), (note(4, 60),), (note(4, 62),), (bar((4, 61, 65)),), (note(4, 60), note(4, 65)),
)


def putting_modes(modes, breaks=()):
    first = [PAIRS[mode][0] for mode in modes]
    second = [PAIRS[mode][1] for mode in modes]
    return putting(first, second, breaks)


class Labels(unittest.TestCase):
    def check(self, modes, labels, breaks=()):
        wanted = [lined(label, *LINES[mode]) for mode, label in zip(modes, labels)]
        self.assertEqual(putting_modes(modes, breaks), on_one(*wanted))

    def test_the_first_label(self):
        for mode in (1, 2, 3, 4):
            self.check([mode], [mode])

    def test_the_same_again(self):
        for mode in (1, 2, 3, 4):
            self.check([mode] * 4, [mode, 0, 0, 0])

    def test_another(self):
        self.check([1, 2, 3, 4], [1, 2, 3, 4])
        self.check([4, 3, 2, 1], [4, 3, 2, 1])

    def test_one_that_was_in_force_before_is_told_again(self):
        self.check([1, 2, 1, 2], [1, 2, 1, 2])
        self.check([3, 3, 4, 4, 3], [3, 0, 4, 0, 3])

    def test_in_force_over_bars_of_mode_0_and_5(self):
        for mode in (1, 2, 3, 4):
            self.check([mode, 0, mode], [mode, 0, 0])
            self.check([mode, 5, mode], [mode, 0, 0])
            self.check([mode, 5, 0, 0, 5, mode], [mode, 0, 0, 0, 0, 0])

    def test_bars_of_mode_0_and_5_have_none(self):
        self.check([0, 5, 0, 5], [0, 0, 0, 0])

    def test_the_first_label_behind_bars_without_one(self):
        self.check([0, 5, 3, 0, 3], [0, 0, 3, 0, 0])

    def test_a_break_leaves_it_in_force(self):
        self.check([2, 2, 0, 2], [2, 0, 0, 0], [1, 3])

    def test_each_line_begins_with_none(self):
        calls = [begins([4]), staff(note(4)), staff(rest(4)), two(0, 1), two(0, 1)]
        wanted = on_one(lined(1, note(4)))
        self.assertEqual(ask(*calls)[3:], [wanted, wanted])

    def test_forty_bars(self):
        self.check([1] * 20 + [2] * 20, [1] + [0] * 19 + [2] + [0] * 19)

    def test_every_order_of_four_bars(self):
        for modes in itertools.product(range(6), repeat=4):
            with self.subTest(modes=modes):
                last = 0
                labels = []
                for mode in modes:
                    labels.append(mode if mode in (1, 2, 3, 4) and mode != last else 0)
                    last = mode if mode in (1, 2, 3, 4) else last
                self.check(modes, labels)


class Staves(unittest.TestCase):
    def test_a_staff_with_itself(self):
        told = [note(4), rest(4), bar((2, 60, 64), (2,)), note(4)]
        calls = [begins([4] * 4), staff(*told), two(0, 0)]
        self.assertEqual(
            ask(*calls)[2], on_one(lined(3, told[0]), lined(0), lined(0, told[2]), lined(0, told[3])))

    def test_the_other_way_about(self):
        calls = [begins([4, 4]), staff(note(4, 64), note(4, 60)), staff(note(4, 60), rest(4)), two(1, 0)]
        self.assertEqual(
            ask(*calls)[3], on_one(lined(0, note(4, 60), note(4, 64)), lined(2, note(4, 60))))

    def test_two_of_eight(self):
        calls = [begins([4])] + [staff(note(4, 60 + number)) for number in range(8)] + [two(7, 2)]
        self.assertEqual(ask(*calls)[9], on_one(lined(4, bar((4, 62, 67)))))

    def test_bars_of_unlike_lengths(self):
        first = [note(4, 64), rest(3), note(64, 64)]
        second = [note(4, 60), rest(3), note(64, 64)]
        self.assertEqual(
            putting(first, second), on_one(lined(4, bar((4, 60, 64))), lined(0), lined(3, note(64, 64))))

    def test_a_score_without_bars(self):
        self.assertEqual(ask(begins([]), staff(), staff(), two(0, 1), two(1, 1))[3:], [[0], [0]])


class Refusals(unittest.TestCase):
    def test_the_first_staff(self):
        calls = [begins([4]), staff(note(4)), two(1, 0), two(4294967295, 0)]
        self.assertEqual(ask(*calls)[2:], [[-2], [-2]])

    def test_the_second_staff(self):
        calls = [begins([4]), staff(note(4)), two(0, 1), two(0, 4294967295)]
        self.assertEqual(ask(*calls)[2:], [[-2], [-2]])

    def test_both_staves(self):
        self.assertEqual(ask(begins([4]), two(0, 0), staff(note(4)), two(1, 1)), [[1], [-2], [0], [-2]])

    def test_a_score_without_staves_and_bars(self):
        self.assertEqual(ask(two(0, 0)), [[-2]])

    def test_behind_another_begins(self):
        self.assertEqual(ask(begins([4]), staff(note(4)), begins([4]), two(0, 0))[3], [-2])


class TheScoreBehindIt(unittest.TestCase):
    def test_it_is_as_it_was(self):
        first = [bar((2, 64), (2, 65)), note(4, 64)]
        second = [bar((2, 60), (2, 61)), rest(4)]
        ahead = [begins([4, 4]), staff(*first), staff(*second)]
        behind = [staves(0), staves(1), draw([0, 1]), staff(rest(4), rest(4))]
        for told in (two(0, 1), two(1, 0), two(0, 0), two(0, 2), two(2, 0)):
            with self.subTest(told=told):
                taken = ask(*ahead, told, *behind)[4:]
                self.assertEqual(taken, [
                    shown(*first), shown(*second),
                    drawn(bar_piece(first[0], second[0]), bar_piece(first[1], second[1])), [2],
                ])

    def test_it_answers_as_many_lists_as_bars(self):
        answer = putting_modes([0, 1, 2, 3, 4, 5])
        self.assertEqual(answer[0], 6)
        self.assertEqual([row[1] for row in rows_of(answer)], [0, 1, 1, 1, 1, 2])


if __name__ == "__main__":
    unittest.main()
