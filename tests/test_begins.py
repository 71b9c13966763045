"""Promise 1: begins."""

import unittest

from telling import ask, begins, draw, drawn, note, rest, rest_piece, shown, staff, staves


class Begun(unittest.TestCase):
    def test_answers_how_many_bars(self):
        self.assertEqual(ask(begins([4, 3, 4])), [[3]])

    def test_breaks_are_no_bars(self):
        self.assertEqual(ask(begins([4, 4, 4, 4], [2])), [[4]])

    def test_the_breaks_told_are_the_scores(self):
        calls = [begins([4, 3, 4, 5], [2]), staff(rest(4), rest(3), rest(4), rest(5)), draw([0])]
        self.assertEqual(ask(*calls)[2], drawn(rest_piece(2), rest_piece(2)))

    def test_no_bars_at_all(self):
        self.assertEqual(ask(begins([])), [[0]])

    def test_there_are_no_bars_ahead_of_the_first_begins(self):
        self.assertEqual(ask(staff(), staves(0), draw([0])), [[0], [0, 0], [0]])

    def test_a_staff_with_a_bar_ahead_of_the_first_begins(self):
        self.assertEqual(ask(staff(rest(4))), [[-1]])


class Edges(unittest.TestCase):
    def test_forty_bars(self):
        self.assertEqual(ask(begins([4] * 40)), [[40]])

    def test_forty_one_bars(self):
        self.assertEqual(ask(begins([4] * 41)), [[-1]])

    def test_sixty_bars(self):
        self.assertEqual(ask(begins([4] * 60)), [[-1]])

    def test_length_0(self):
        self.assertEqual(ask(begins([4, 0, 4])), [[-1]])

    def test_length_1(self):
        self.assertEqual(ask(begins([1]), staff(note(1))), [[1], [0]])

    def test_length_64(self):
        self.assertEqual(ask(begins([64]), staff(note(64))), [[1], [0]])

    def test_length_65(self):
        self.assertEqual(ask(begins([4, 4, 65])), [[-1]])

    def test_the_greatest_length_that_can_be_told(self):
        self.assertEqual(ask(begins([4294967295])), [[-1]])

    def test_forty_breaks(self):
        self.assertEqual(ask(begins([4] * 40, list(range(40)))), [[40]])

    def test_forty_one_breaks_though_told_again(self):
        self.assertEqual(ask(begins([4, 4], [1] * 41)), [[-1]])

    def test_forty_breaks_told_again(self):
        self.assertEqual(ask(begins([4, 4], [1] * 40)), [[2]])

    def test_a_break_told_again_is_one_break(self):
        calls = [begins([4, 4], [1, 1]), staff(rest(4), rest(4)), draw([0])]
        self.assertEqual(ask(*calls), [[2], [0], drawn(rest_piece(1), rest_piece(1))])

    def test_a_break_before_bar_0(self):
        calls = [begins([4, 4], [0]), staff(rest(4), rest(4)), draw([0])]
        self.assertEqual(ask(*calls), [[2], [0], drawn(rest_piece(2))])

    def test_a_break_before_the_last_bar(self):
        self.assertEqual(ask(begins([4, 4, 4], [2])), [[3]])

    def test_a_break_behind_the_last_bar(self):
        self.assertEqual(ask(begins([4, 4, 4], [3])), [[-1]])

    def test_a_break_far_behind_the_last_bar(self):
        self.assertEqual(ask(begins([4, 4, 4], [1, 4294967295])), [[-1]])

    def test_a_break_where_there_are_no_bars(self):
        self.assertEqual(ask(begins([], [0])), [[-1]])

    def test_breaks_in_any_order(self):
        calls = [begins([4] * 4, [3, 1]), staff(*[rest(4)] * 4), draw([0])]
        self.assertEqual(ask(*calls)[2], drawn(rest_piece(1), rest_piece(2), rest_piece(1)))


class BehindOtherCalls(unittest.TestCase):
    def test_a_begins_leaves_no_staves(self):
        calls = [begins([4]), staff(note(4)), staff(rest(4)), begins([4]), staves(0), draw([0])]
        self.assertEqual(ask(*calls), [[1], [0], [1], [1], [-2], [-2]])

    def test_staves_are_numbered_from_0_again(self):
        calls = [begins([4]), staff(note(4)), begins([3]), staff(note(3, 61)), staves(0)]
        self.assertEqual(ask(*calls), [[1], [0], [1], [0], shown(note(3, 61))])

    def test_a_begins_leaves_no_breaks(self):
        calls = [begins([4, 4], [1]), begins([4, 4]), staff(rest(4), rest(4)), draw([0])]
        self.assertEqual(ask(*calls)[3], drawn(rest_piece(2)))

    def test_a_refused_begins_changes_nothing(self):
        refused = [
            begins([3] * 41),
            begins([3, 0]),
            begins([65]),
            begins([3, 3, 3], [1] * 41),
            begins([3, 3, 3], [3]),
        ]
        for wrong in refused:
            with self.subTest(wrong=wrong):
                calls = [begins([4, 4], [1]), staff(rest(4), rest(4)), wrong, staves(0), draw([0])]
                calls.append(staff(note(4), note(4)))
                self.assertEqual(ask(*calls), [
                    [2], [0], [-1], shown(rest(4), rest(4)),
                    drawn(rest_piece(1), rest_piece(1)), [1],
                ])


if __name__ == "__main__":
    unittest.main()
