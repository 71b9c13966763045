"""Promise 4: back."""

import itertools
import unittest

from telling import (
    ask, back, bar, begins, cue_piece, draw, note, pieces_of, rest, rest_piece, shown, staff, staff_lists,
    staves, told_bars,
)


def putting(lengths, breaks, count, *pieces):
    """What back answers, in a score of these bars and breaks that has no staves."""
    return ask(begins(lengths, breaks), back(count, *pieces))[1]


def drawn_and_put_back(lengths, breaks, staffs, part, least):
    """What back answers for what draw answered."""
    told = [begins(lengths, breaks)] + [staff(*bars) for bars in staffs]
    pieces = pieces_of(ask(*told, draw(part, least))[-1], len(part))
    return ask(*told, back(len(part), *pieces))[-1]


def put_back(*staffs):
    """What back answers for a part of these staves."""
    return staff_lists(len(staffs), *staffs)


class PutBack(unittest.TestCase):
    def test_one_staff(self):
        second = bar((1, 60, 64), (2,))
        self.assertEqual(
            putting([4, 3, 5, 6], [], 1, told_bars(note(4)), told_bars(second), rest_piece(2)),
            put_back([note(4), second, rest(5), rest(6)]))

    def test_as_plain_numbers(self):
        calls = [[0, 3, 4, 4, 4, 0], [4, 1, 15, 3, 0, 1, 2, 1, 1, 4, 1, 60, 1, 1, 1, 4, 1, 72]]
        self.assertEqual(ask(*calls), [[3], [1, 10, 1, 4, 0, 1, 4, 0, 1, 4, 1, 72]])

    def test_several_staves(self):
        self.assertEqual(
            putting([4, 3], [], 3, told_bars(note(4, 1), rest(4), note(4, 3)), rest_piece(1)),
            put_back([note(4, 1), rest(3)], [rest(4), rest(3)], [note(4, 3), rest(3)]))

    def test_a_cue_is_none_of_the_staves_bars(self):
        self.assertEqual(
            putting([4, 3, 4], [], 2, rest_piece(1), cue_piece(0, note(3)), told_bars(rest(4), note(4))),
            put_back([rest(4), rest(3), rest(4)], [rest(4), rest(3), note(4)]))

    def test_a_single_cued_bar(self):
        self.assertEqual(putting([4], [], 1, cue_piece(1, note(4))), put_back([rest(4)]))

    def test_no_bars_and_no_pieces(self):
        for count in (1, 2, 8):
            self.assertEqual(putting([], [], count), [count] + [0] * count)
            self.assertEqual(ask(back(count)), [[count] + [0] * count])

    def test_forty_bars(self):
        bars = [note(4, place) for place in range(40)]
        self.assertEqual(putting([4] * 40, [], 1, *[told_bars(told) for told in bars]), put_back(bars))

    def test_a_rest_of_forty_bars(self):
        lengths = list(range(1, 41))
        self.assertEqual(
            putting(lengths, [], 2, rest_piece(40)), put_back(*[[rest(length) for length in lengths]] * 2))


class DrawnAndPutBack(unittest.TestCase):
    lengths = [4, 3, 2, 4, 5]
    first = [note(4), rest(3), rest(2), rest(4), bar((2, 60, 64), (3,))]
    second = [note(4, 50), rest(3), rest(2), rest(4), rest(5)]
    third = [rest(4), rest(3), note(2, 70), note(4, 71), rest(5)]

    def check(self, breaks, part):
        staffs = [self.first, self.second, self.third]
        wanted = put_back(*[staffs[number] for number in part])
        for least in (0, 1, 2, 3, 4, 4294967295):
            with self.subTest(breaks=breaks, part=part, least=least):
                self.assertEqual(drawn_and_put_back(self.lengths, breaks, staffs, part, least), wanted)

    def test_one_staff(self):
        for number in range(3):
            self.check([], [number])

    def test_several_staves_in_any_order(self):
        for count in (2, 3):
            for part in itertools.permutations(range(3), count):
                self.check([], list(part))

    def test_with_breaks(self):
        for breaks in ([0], [2], [3], [1, 2, 3, 4], [4, 0, 2, 2]):
            for part in ([0], [1], [1, 0], [2, 0, 1]):
                self.check(breaks, part)

    def test_all_eight_staves(self):
        staffs = [[rest(4), note(3, key), rest(2)] for key in range(8)]
        part = [7, 0, 6, 1, 5, 2, 4, 3]
        self.assertEqual(
            drawn_and_put_back([4, 3, 2], [1], staffs, part, 1), put_back(*[staffs[number] for number in part]))

    def test_rests_that_were_told_by_several_items(self):
        staffs = [[bar((1,), (3,)), note(4)], [bar((2,), (2,)), bar((1,), (1,), (2,))]]
        self.assertEqual(
            drawn_and_put_back([4, 4], [], staffs, [0, 1], 0),
            put_back([rest(4), note(4)], [rest(4), rest(4)]))

    def test_every_pattern_of_two_staves_over_three_bars(self):
        choices = list(itertools.product((False, True), repeat=2))
        for pattern in itertools.product(choices, repeat=3):
            staffs = [
                [note(2 + place, 60) if sounds[number] else rest(2 + place)
                 for place, sounds in enumerate(pattern)]
                for number in range(2)
            ] + [[note(2, 70), rest(3), note(4, 71)]]
            for breaks in ([], [1], [2], [1, 2]):
                for least in (0, 1, 2, 3):
                    with self.subTest(pattern=pattern, breaks=breaks, least=least):
                        taken = drawn_and_put_back([2, 3, 4], breaks, staffs, [1, 0], least)
                        self.assertEqual(taken, put_back(staffs[1], staffs[0]))


class HowManyStaves(unittest.TestCase):
    def test_m_0(self):
        self.assertEqual(putting([4], [], 0, rest_piece(1)), [-1])
        self.assertEqual(putting([], [], 0), [-1])
        self.assertEqual(putting([4], [], 0, told_bars()), [-1])

    def test_m_1(self):
        self.assertEqual(putting([4], [], 1, rest_piece(1)), put_back([rest(4)]))

    def test_m_8(self):
        self.assertEqual(putting([4], [], 8, rest_piece(1)), put_back(*[[rest(4)]] * 8))
        bars = [note(4, key) for key in range(8)]
        self.assertEqual(putting([4], [], 8, told_bars(*bars)), put_back(*[[told] for told in bars]))

    def test_m_9(self):
        self.assertEqual(putting([4], [], 9, rest_piece(1)), [-1])
        self.assertEqual(putting([], [], 9), [-1])
        self.assertEqual(putting([4], [], 9, told_bars(*[note(4)] * 9)), [-1])

    def test_the_greatest_m_that_can_be_told(self):
        self.assertEqual(putting([4], [], 4294967295, rest_piece(1)), [-1])

    def test_more_staves_than_the_score_has(self):
        calls = [begins([4]), staff(note(4)), back(3, told_bars(rest(4), note(4), rest(4)))]
        self.assertEqual(ask(*calls)[2], put_back([rest(4)], [note(4)], [rest(4)]))


class HowManyBars(unittest.TestCase):
    def test_fewer_than_the_score(self):
        self.assertEqual(putting([4, 4, 4], [], 1, rest_piece(2)), [-1])
        self.assertEqual(putting([4, 4, 4], [], 1, told_bars(note(4)), cue_piece(0, note(4))), [-1])
        self.assertEqual(putting([4], [], 1), [-1])

    def test_more_than_the_score(self):
        self.assertEqual(putting([4, 4], [], 1, rest_piece(3)), [-1])
        self.assertEqual(putting([4], [], 1, told_bars(note(4)), told_bars(note(4))), [-1])
        self.assertEqual(putting([4], [], 1, told_bars(note(4)), rest_piece(1)), [-1])
        self.assertEqual(putting([4], [], 1, rest_piece(1), cue_piece(0, note(4))), [-1])

    def test_pieces_where_the_score_has_no_bars(self):
        for piece in (rest_piece(1), told_bars(note(4)), cue_piece(0, note(4))):
            self.assertEqual(putting([], [], 1, piece), [-1])

    def test_sixty_pieces(self):
        self.assertEqual(putting([4] * 40, [], 1, *[told_bars(note(4))] * 60), [-1])


class Rests(unittest.TestCase):
    def test_of_no_bar(self):
        self.assertEqual(putting([4], [], 1, rest_piece(0)), [-1])
        self.assertEqual(putting([], [], 1, rest_piece(0)), [-1])
        self.assertEqual(putting([4], [], 1, rest_piece(0), rest_piece(1)), [-1])
        self.assertEqual(putting([4], [], 1, rest_piece(1), rest_piece(0)), [-1])
        self.assertEqual(putting([4, 4], [1], 1, rest_piece(1), rest_piece(0), rest_piece(1)), [-1])

    def test_up_to_a_break(self):
        self.assertEqual(
            putting([4, 3, 2], [2], 1, rest_piece(2), told_bars(note(2))),
            put_back([rest(4), rest(3), note(2)]))

    def test_on_both_sides_of_a_break(self):
        self.assertEqual(
            putting([4, 3, 2], [2], 1, rest_piece(2), rest_piece(1)), put_back([rest(4), rest(3), rest(2)]))

    def test_over_a_break(self):
        self.assertEqual(putting([4] * 3, [2], 1, rest_piece(3)), [-1])
        self.assertEqual(putting([4] * 3, [1], 1, rest_piece(2), rest_piece(1)), [-1])
        self.assertEqual(putting([4] * 3, [0, 2], 1, told_bars(note(4)), rest_piece(2)), [-1])
        self.assertEqual(putting([4] * 5, [4, 3, 0], 1, rest_piece(2), rest_piece(2), rest_piece(1)), [-1])

    def test_over_a_break_by_the_last_of_forty_bars(self):
        self.assertEqual(putting([4] * 40, [39], 1, rest_piece(40)), [-1])
        self.assertEqual(
            putting([4] * 40, [39], 1, rest_piece(39), rest_piece(1)), put_back([rest(4)] * 40))

    def test_at_a_break_before_bar_0(self):
        self.assertEqual(putting([4, 4], [0], 1, rest_piece(2)), put_back([rest(4), rest(4)]))

    def test_from_a_break_on(self):
        self.assertEqual(
            putting([4, 4, 4], [1], 1, told_bars(note(4)), rest_piece(2)), put_back([note(4), rest(4), rest(4)]))

    def test_behind_another_rest_without_a_break(self):
        self.assertEqual(
            putting([4, 3, 2], [], 1, rest_piece(1), rest_piece(2)), put_back([rest(4), rest(3), rest(2)]))

    def test_behind_a_cue_without_a_break(self):
        self.assertEqual(
            putting([4, 3, 2], [], 1, cue_piece(0, note(4)), rest_piece(1), cue_piece(0, note(2))),
            put_back([rest(4), rest(3), rest(2)]))

    def test_a_cue_behind_a_break(self):
        self.assertEqual(
            putting([4, 3], [1], 1, rest_piece(1), cue_piece(1, note(3))), put_back([rest(4), rest(3)]))

    def test_far_longer_than_the_score(self):
        for count in (41, 61, 4294967295):
            self.assertEqual(putting([4], [], 1, rest_piece(count)), [-1])
            self.assertEqual(putting([4, 4], [1], 1, told_bars(note(4)), rest_piece(count)), [-1])


# Bars that aren't as told, in a score's bar 4 long.
WRONG_BARS = (
    bar(), bar((4, 60), (0, 62)), bar((0,), (4, 60)), bar((1, 60), (2, 62)), note(3), note(5),
    note(4294967295), bar(*[(1, 60)] * 21), bar((4, 0, 1, 2, 3, 4, 5, 6)), bar((4, 64, 60)),
    bar((4, 60, 60)), note(4, 128), note(4, 4294967295), bar((2, 60), (2, 127, 128)), rest(3), rest(5),
)


class Bars(unittest.TestCase):
    def test_fewer_than_m(self):
        self.assertEqual(putting([4], [], 2, told_bars(note(4))), [-1])
        self.assertEqual(putting([4], [], 1, told_bars()), [-1])

    def test_more_than_m(self):
        self.assertEqual(putting([4], [], 1, told_bars(note(4), note(4))), [-1])
        self.assertEqual(putting([4], [], 1, told_bars(note(4), rest(4))), [-1])
        self.assertEqual(putting([4], [], 8, told_bars(*[note(4)] * 60)), [-1])

    def test_each_way_that_a_bar_is_not_as_told(self):
        for wrong in WRONG_BARS:
            with self.subTest(wrong=wrong):
                self.assertEqual(putting([4], [], 1, told_bars(wrong)), [-1])
                self.assertEqual(putting([4], [], 2, told_bars(note(4), wrong)), [-1])
                self.assertEqual(putting([4], [], 2, told_bars(wrong, note(4))), [-1])
                self.assertEqual(putting([4, 4], [], 1, told_bars(note(4)), told_bars(wrong)), [-1])

    def test_twenty_one_items_as_long_as_the_bar(self):
        self.assertEqual(putting([21], [], 1, told_bars(bar(*[(1, 60)] * 21))), [-1])
        self.assertEqual(putting([21], [], 2, told_bars(note(21), bar(*[(1,)] * 21))), [-1])

    def test_the_most_that_a_bar_may_have(self):
        full = bar(*[(1, 0, 1, 2, 3, 4, 127)] * 20)
        self.assertEqual(putting([20], [], 2, told_bars(full, full)), put_back([full], [full]))

    def test_each_bar_is_held_against_its_own_length(self):
        self.assertEqual(putting([3, 4], [], 1, told_bars(note(4)), told_bars(note(3))), [-1])
        self.assertEqual(
            putting([3, 4], [], 1, told_bars(note(3)), told_bars(note(4))), put_back([note(3), note(4)]))
        self.assertEqual(
            putting([4, 2, 3], [], 1, rest_piece(2), told_bars(note(3))), put_back([rest(4), rest(2), note(3)]))

    def test_they_all_rest(self):
        self.assertEqual(putting([4], [], 1, told_bars(rest(4))), [-1])
        self.assertEqual(putting([4], [], 1, told_bars(bar((1,), (3,)))), [-1])
        self.assertEqual(putting([4], [], 3, told_bars(rest(4), bar((2,), (2,)), rest(4))), [-1])

    def test_all_but_one_rest(self):
        self.assertEqual(
            putting([4], [], 3, told_bars(rest(4), rest(4), note(4))), put_back([rest(4)], [rest(4)], [note(4)]))

    def test_some_that_rest_told_by_several_items(self):
        self.assertEqual(
            putting([4, 20], [], 2, told_bars(bar((1,), (3,)), note(4)), told_bars(note(20), bar(*[(1,)] * 20))),
            put_back([rest(4), note(20)], [note(4), rest(20)]))

    def test_rests_of_a_bar_that_sounds_stay_as_told(self):
        told = bar((1,), (1,), (1, 60), (1,))
        self.assertEqual(putting([4], [], 1, told_bars(told)), put_back([told]))


class Cues(unittest.TestCase):
    def test_a_staff_that_there_is_not(self):
        for number in (0, 8, 60, 4294967295):
            self.assertEqual(putting([4], [], 1, cue_piece(number, note(4))), put_back([rest(4)]))

    def test_a_bar_that_is_not_the_told_staffs(self):
        calls = [begins([4]), staff(note(4, 60)), back(1, cue_piece(0, bar((2, 61), (2,))))]
        self.assertEqual(ask(*calls)[2], put_back([rest(4)]))

    def test_a_bar_that_is_not_as_told(self):
        for wrong in WRONG_BARS:
            with self.subTest(wrong=wrong):
                self.assertEqual(putting([4], [], 1, cue_piece(0, wrong)), [-1])
                self.assertEqual(putting([4, 4], [], 2, rest_piece(1), cue_piece(0, wrong)), [-1])

    def test_a_bar_is_held_against_the_length_of_its_place(self):
        self.assertEqual(putting([4, 3], [], 1, rest_piece(1), cue_piece(0, note(4))), [-1])
        self.assertEqual(
            putting([4, 3], [], 1, rest_piece(1), cue_piece(0, note(3))), put_back([rest(4), rest(3)]))

    def test_a_bar_that_rests(self):
        for told in (rest(4), bar((1,), (3,))):
            self.assertEqual(putting([4], [], 2, cue_piece(0, told)), put_back([rest(4)], [rest(4)]))


class TheScoreBehindIt(unittest.TestCase):
    def check(self, told, wanted):
        first = [note(4, 50), rest(3)]
        ahead = [begins([4, 3], [1]), staff(*first)]
        behind = [staves(0), staves(1), draw([0]), staff(rest(4), note(3)), staves(1)]
        taken = ask(*ahead, told, *behind)
        self.assertEqual(taken[2], wanted)
        self.assertEqual(taken[3], shown(*first))
        self.assertEqual(taken[4], [-2])
        self.assertEqual(taken[3:], ask(*ahead, *behind)[2:])
        self.assertEqual(taken[6:], [[1], shown(rest(4), note(3))])

    def test_put_back(self):
        self.check(
            back(2, told_bars(note(4), note(4, 61)), rest_piece(1)),
            put_back([note(4), rest(3)], [note(4, 61), rest(3)]))

    def test_refused(self):
        for told in (
                back(0, rest_piece(1), rest_piece(1)), back(9, rest_piece(1), rest_piece(1)), back(1),
                back(1, rest_piece(1)), back(1, rest_piece(2)), back(1, rest_piece(0)),
                back(1, told_bars(note(4)), told_bars(note(4))), back(1, told_bars(rest(4)), rest_piece(1)),
                back(1, rest_piece(1), cue_piece(0, note(4)))):
            with self.subTest(told=told):
                self.check(told, [-1])


if __name__ == "__main__":
    unittest.main()
