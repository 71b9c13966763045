"""Promise 3: draw."""

import itertools
import unittest

from telling import (
    ask, bar, bar_piece, begins, cue_piece, draw, drawn, note, rest, rest_piece, staff,
)


def drawing(lengths, breaks, staffs, part, least=0):
    """What draw answers, in a score of these bars, breaks and staves."""
    told = [staff(*bars) for bars in staffs]
    return ask(begins(lengths, breaks), *told, draw(part, least))[-1]


class Bars(unittest.TestCase):
    def test_bar_by_bar(self):
        first = [note(4, 60), bar((1, 60, 64), (2, 62))]
        self.assertEqual(drawing([4, 3], [], [first], [0]), drawn(bar_piece(first[0]), bar_piece(first[1])))

    def test_as_plain_numbers(self):
        calls = [
            [0, 3, 4, 4, 4, 0],
            [1, 11, 3, 1, 4, 1, 60, 1, 4, 0, 1, 4, 0],
            [1, 11, 3, 1, 4, 0, 1, 4, 0, 1, 4, 1, 72],
            [3, 1, 1, 0],
        ]
        wanted = [[3], [0], [1], [3, 5, 1, 1, 4, 1, 60, 2, 0, 1, 6, 2, 1, 1, 4, 1, 72]]
        self.assertEqual(ask(*calls), wanted)

    def test_staves_in_another_order_than_their_numbers(self):
        staffs = [[note(4, 60)], [note(4, 61)], [note(4, 62)]]
        self.assertEqual(
            drawing([4], [], staffs, [2, 0, 1]),
            drawn(bar_piece(note(4, 62), note(4, 60), note(4, 61))))

    def test_a_bar_that_one_staff_rests_and_another_does_not(self):
        staffs = [[rest(4), note(4)], [note(4, 72), bar((3,), (1,))]]
        self.assertEqual(
            drawing([4, 4], [], staffs, [0, 1]),
            drawn(bar_piece(rest(4), note(4, 72)), bar_piece(note(4), rest(4))))

    def test_all_eight_staves(self):
        staffs = [[note(4, key)] for key in range(8)]
        order = [7, 0, 6, 1, 5, 2, 4, 3]
        self.assertEqual(
            drawing([4], [], staffs, order), drawn(bar_piece(*[note(4, key) for key in order])))

    def test_a_break_between_bars_that_sound(self):
        self.assertEqual(
            drawing([4, 4], [1], [[note(4), note(4)]], [0]),
            drawn(bar_piece(note(4)), bar_piece(note(4))))

    def test_a_score_without_bars(self):
        self.assertEqual(drawing([], [], [[], []], [1, 0], 1), [0])


class Rests(unittest.TestCase):
    def test_a_rest_between_bars(self):
        first = [note(4)] + [rest(4)] * 3 + [note(4, 62)]
        self.assertEqual(
            drawing([4] * 5, [], [first], [0]),
            drawn(bar_piece(note(4)), rest_piece(3), bar_piece(note(4, 62))))

    def test_a_rest_of_bars_that_are_not_as_long(self):
        self.assertEqual(
            drawing([4, 3, 2], [], [[rest(4), rest(3), rest(2)]], [0]), drawn(rest_piece(3)))

    def test_a_rest_up_to_a_break(self):
        first = [rest(4), rest(4), note(4)]
        self.assertEqual(
            drawing([4] * 3, [2], [first], [0]), drawn(rest_piece(2), bar_piece(note(4))))

    def test_a_rest_from_a_break(self):
        first = [note(4), rest(4), rest(4)]
        self.assertEqual(
            drawing([4] * 3, [1], [first], [0]), drawn(bar_piece(note(4)), rest_piece(2)))

    def test_a_rest_over_the_last_bar(self):
        first = [note(4), rest(4), rest(4)]
        self.assertEqual(
            drawing([4] * 3, [], [first], [0]), drawn(bar_piece(note(4)), rest_piece(2)))

    def test_two_rests_on_both_sides_of_a_break(self):
        self.assertEqual(
            drawing([4] * 5, [2], [[rest(4)] * 5], [0]), drawn(rest_piece(2), rest_piece(3)))

    def test_a_break_before_each_bar(self):
        self.assertEqual(
            drawing([4] * 3, [0, 1, 2], [[rest(4)] * 3], [0]), drawn(*[rest_piece(1)] * 3))

    def test_forty_bars_of_rest(self):
        self.assertEqual(drawing([64] * 40, [], [[rest(64)] * 40], [0]), drawn(rest_piece(40)))

    def test_all_the_parts_staves_have_to_rest(self):
        staffs = [[rest(4), rest(4), note(4)], [note(4), rest(4), rest(4)], [note(4)] * 3]
        self.assertEqual(
            drawing([4] * 3, [], staffs, [0, 1]),
            drawn(bar_piece(rest(4), note(4)), rest_piece(1), bar_piece(note(4), rest(4))))


class Cues(unittest.TestCase):
    quiet = [rest(4)] * 3 + [note(4)]
    other = [note(4, key) for key in (70, 71, 72, 73)]

    def cued(self, least):
        return drawing([4] * 4, [], [self.quiet, self.other], [0], least)

    def test_least_0(self):
        self.assertEqual(self.cued(0), drawn(rest_piece(3), bar_piece(note(4))))

    def test_least_1(self):
        self.assertEqual(
            self.cued(1), drawn(rest_piece(2), cue_piece(1, note(4, 72)), bar_piece(note(4))))

    def test_least_as_long_as_the_rest(self):
        self.assertEqual(
            self.cued(3), drawn(rest_piece(2), cue_piece(1, note(4, 72)), bar_piece(note(4))))

    def test_least_one_more_than_the_rest(self):
        self.assertEqual(self.cued(4), drawn(rest_piece(3), bar_piece(note(4))))

    def test_the_greatest_least_that_can_be_told(self):
        self.assertEqual(self.cued(4294967295), drawn(rest_piece(3), bar_piece(note(4))))

    def test_a_rest_of_one_bar_with_a_cue(self):
        staffs = [[note(4), rest(4), note(4)], self.other[:3]]
        self.assertEqual(
            drawing([4] * 3, [], staffs, [0], 1),
            drawn(bar_piece(note(4)), cue_piece(1, note(4, 71)), bar_piece(note(4))))

    def test_a_rest_of_two_bars_with_a_cue(self):
        self.assertEqual(
            drawing([4] * 2, [], [[rest(4)] * 2, self.other[:2]], [0], 2),
            drawn(rest_piece(1), cue_piece(1, note(4, 71))))

    def test_no_other_staff_sounds_in_the_last_bar(self):
        other = [note(4), note(4), rest(4), note(4)]
        self.assertEqual(
            drawing([4] * 4, [], [self.quiet, other], [0], 1),
            drawn(rest_piece(3), bar_piece(note(4))))

    def test_there_is_no_other_staff(self):
        self.assertEqual(
            drawing([4] * 4, [], [self.quiet], [0], 1), drawn(rest_piece(3), bar_piece(note(4))))

    def test_no_cue_for_a_single_bar_either(self):
        self.assertEqual(drawing([4], [], [[rest(4)], [rest(4)]], [0], 1), drawn(rest_piece(1)))

    def test_a_cue_over_the_last_bar(self):
        self.assertEqual(
            drawing([4] * 3, [], [[rest(4)] * 3, self.other[:3]], [0], 3),
            drawn(rest_piece(2), cue_piece(1, note(4, 72))))

    def test_the_cue_is_the_first_by_numbers_outside_the_part(self):
        staffs = [[rest(4)], [rest(4)], [rest(4)], [note(4, 63)], [note(4, 64)]]
        self.assertEqual(drawing([4], [], staffs, [2, 0], 1), drawn(cue_piece(3, note(4, 63))))

    def test_the_cue_may_be_ahead_of_the_part(self):
        staffs = [[note(4, 60)], [note(4, 61)], [rest(4)]]
        self.assertEqual(drawing([4], [], staffs, [2], 1), drawn(cue_piece(0, note(4, 60))))

    def test_the_cue_brings_its_whole_bar(self):
        told = bar((1,), (1, 60, 64), (1,), (1, 62))
        self.assertEqual(
            drawing([4], [], [[told], [rest(4)]], [1], 1), drawn(cue_piece(0, told)))

    def test_each_rest_is_counted_by_itself(self):
        first = [rest(4)] * 2 + [note(4)] + [rest(4)] * 3
        other = [note(4, key) for key in range(6)]
        self.assertEqual(
            drawing([4] * 6, [], [first, other], [0], 3),
            drawn(rest_piece(2), bar_piece(note(4)), rest_piece(2), cue_piece(1, note(4, 5))))

    def test_rests_on_both_sides_of_a_break_are_counted_by_themselves(self):
        other = [note(4, key) for key in range(5)]
        self.assertEqual(
            drawing([4] * 5, [2], [[rest(4)] * 5, other], [0], 3),
            drawn(rest_piece(2), rest_piece(2), cue_piece(1, note(4, 4))))
        self.assertEqual(
            drawing([4] * 5, [2], [[rest(4)] * 5, other], [0], 2),
            drawn(rest_piece(1), cue_piece(1, note(4, 1)), rest_piece(2), cue_piece(1, note(4, 4))))

    def test_a_bar_that_sounds_has_no_cue(self):
        staffs = [[rest(4)], [note(4, 61)], [note(4, 62)]]
        self.assertEqual(
            drawing([4], [], staffs, [0, 1], 1), drawn(bar_piece(rest(4), note(4, 61))))


class Refusals(unittest.TestCase):
    def refusal(self, part, least=0):
        return drawing([4], [], [[note(4)], [rest(4)]], part, least)

    def test_a_staff_that_there_is_not(self):
        self.assertEqual(self.refusal([2]), [-2])
        self.assertEqual(self.refusal([0, 1, 4294967295]), [-2])
        self.assertEqual(ask(draw([0])), [[-2]])

    def test_no_staff_is_told(self):
        self.assertEqual(self.refusal([]), [-1])
        self.assertEqual(ask(draw([])), [[-1]])

    def test_a_staff_told_twice(self):
        self.assertEqual(self.refusal([0, 0]), [-1])
        self.assertEqual(self.refusal([0, 1, 0], 1), [-1])
        self.assertEqual(self.refusal([1] * 60), [-1])

    def test_both_at_once(self):
        self.assertEqual(self.refusal([0, 0, 2]), [-2])
        self.assertEqual(self.refusal([2, 2]), [-2])

    def test_a_refused_draw_changes_nothing(self):
        calls = [begins([4]), staff(note(4)), draw([]), draw([0, 0]), draw([1]), draw([0]), staff(rest(4))]
        self.assertEqual(
            ask(*calls), [[1], [0], [-1], [-1], [-2], drawn(bar_piece(note(4))), [1]])

    def test_a_draw_changes_nothing(self):
        calls = [begins([4]), staff(rest(4)), staff(note(4)), draw([0], 1), draw([1], 1), draw([0], 1)]
        taken = ask(*calls)
        self.assertEqual(taken[3], taken[5])
        self.assertEqual(taken[4], drawn(bar_piece(note(4))))


def counts_of(answer):
    """Each piece's kind and how many bars it's of, out of a draw's answer."""
    pieces = []
    place = 1
    for turn in range(answer[0]):
        row = answer[place + 1:place + 1 + answer[place]]
        pieces.append((row[0], row[1] if row[0] == 0 else 1))
        place += 1 + answer[place]
    return pieces


class EveryPattern(unittest.TestCase):
    """All rests and breaks of five bars: no rest goes over a break, none stops short."""

    def test_rests_are_as_long_as_they_can_be(self):
        for sounding in itertools.product((False, True), repeat=5):
            bars = [note(2, 60 + place) if sounds else rest(2) for place, sounds in enumerate(sounding)]
            for broken in itertools.product((False, True), repeat=4):
                breaks = [place + 1 for place, told in enumerate(broken) if told]
                with self.subTest(sounding=sounding, breaks=breaks):
                    answer = drawing([2] * 5, breaks, [bars], [0])
                    self.check(counts_of(answer), sounding, breaks)

    def check(self, pieces, sounding, breaks):
        place = 0
        behind_rest = False
        for kind, count in pieces:
            within = range(place, place + count)
            self.assertEqual([sounding[bar_place] for bar_place in within], [kind == 1] * count)
            self.assertFalse([bar_place for bar_place in within[1:] if bar_place in breaks])
            if behind_rest and kind == 0:
                self.assertIn(place, breaks)
            behind_rest = kind == 0
            place += count
        self.assertEqual(place, len(sounding))


if __name__ == "__main__":
    unittest.main()
