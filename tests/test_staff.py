"""Promise 2: staff and staves."""

import unittest

from telling import ask, bar, begins, draw, drawn, note, rest, rest_piece, shown, staff, staves


def answer_to(length, told):
    """What a staff of this one bar is answered, in a score of one bar that long."""
    return ask(begins([length]), staff(told))[1]


def kept(length, told):
    """What staves answers of a staff of this one bar."""
    return ask(begins([length]), staff(told), staves(0))[2]


class Staff(unittest.TestCase):
    def test_answers_the_staves_numbers_in_order(self):
        calls = [begins([4])] + [staff(note(4))] * 3
        self.assertEqual(ask(*calls), [[1], [0], [1], [2]])

    def test_staves_shows_the_bars_one_behind_another(self):
        first = bar((1, 60, 64, 67), (1,), (2, 72))
        second = bar((3, 0, 127))
        calls = [begins([4, 3]), staff(first, second), staff(note(4), rest(3)), staves(0), staves(1)]
        self.assertEqual(ask(*calls)[3:], [shown(first, second), shown(note(4), rest(3))])

    def test_as_plain_numbers(self):
        calls = [[0, 2, 4, 3, 0], [1, 12, 2, 2, 1, 2, 60, 64, 3, 0, 1, 3, 1, 5], [2, 0]]
        self.assertEqual(ask(*calls), [[2], [0], [0, 11, 2, 1, 2, 60, 64, 3, 0, 1, 3, 1, 5]])

    def test_a_staff_of_a_score_without_bars(self):
        self.assertEqual(ask(begins([]), staff(), staves(0)), [[0], [0], [0, 0]])

    def test_fewer_bars_than_the_score(self):
        self.assertEqual(ask(begins([4, 4]), staff(note(4)), staff()), [[2], [-1], [-1]])

    def test_more_bars_than_the_score(self):
        self.assertEqual(ask(begins([4]), staff(note(4), note(4))), [[1], [-1]])

    def test_more_bars_than_a_score_may_have(self):
        self.assertEqual(ask(begins([4] * 40), staff(*[note(4)] * 60)), [[40], [-1]])

    def test_forty_bars(self):
        bars = [note(4, place) for place in range(40)]
        calls = [begins([4] * 40), staff(*bars), staves(0)]
        self.assertEqual(ask(*calls), [[40], [0], shown(*bars)])

    def test_each_bar_is_held_against_its_own_length(self):
        calls = [begins([3, 4]), staff(note(4), note(3)), staff(note(3), note(4))]
        self.assertEqual(ask(*calls), [[2], [-1], [0]])

    def test_the_last_bar_is_not_as_told(self):
        self.assertEqual(ask(begins([4, 4]), staff(note(4), note(4, 128)))[1], [-1])


class Bars(unittest.TestCase):
    def test_an_item_of_length_0(self):
        self.assertEqual(answer_to(4, bar((4, 60), (0, 62))), [-1])
        self.assertEqual(answer_to(4, bar((0,), (4, 60))), [-1])

    def test_an_item_of_length_1(self):
        self.assertEqual(answer_to(4, bar((1, 60), (3, 62))), [0])

    def test_shorter_than_its_length(self):
        self.assertEqual(answer_to(4, bar((1, 60), (2, 62))), [-1])
        self.assertEqual(answer_to(4, rest(3)), [-1])

    def test_longer_than_its_length(self):
        self.assertEqual(answer_to(4, bar((2, 60), (3, 62))), [-1])
        self.assertEqual(answer_to(4, rest(5)), [-1])

    def test_much_longer_than_its_length(self):
        self.assertEqual(answer_to(4, note(4294967295)), [-1])
        self.assertEqual(answer_to(4, bar((4294967295, 60), (5, 60))), [-1])

    def test_without_items(self):
        self.assertEqual(answer_to(4, bar()), [-1])
        self.assertEqual(ask(begins([4]), [1, 2, 1, 0]), [[1], [-1]])

    def test_twenty_items(self):
        twenty = bar(*[(1, key) for key in range(20)])
        self.assertEqual(kept(20, twenty), shown(twenty))

    def test_twenty_one_items(self):
        self.assertEqual(answer_to(21, bar(*[(1, key) for key in range(21)])), [-1])

    def test_twenty_one_rests(self):
        self.assertEqual(answer_to(21, bar(*[(1,)] * 21)), [-1])

    def test_sixty_items(self):
        self.assertEqual(answer_to(60, bar(*[(1, 60)] * 60)), [-1])

    def test_six_keys(self):
        six = bar((4, 1, 2, 3, 4, 5, 6))
        self.assertEqual(kept(4, six), shown(six))

    def test_seven_keys(self):
        self.assertEqual(answer_to(4, bar((4, 1, 2, 3, 4, 5, 6, 7))), [-1])

    def test_sixty_keys(self):
        self.assertEqual(answer_to(4, bar((4, *range(60)))), [-1])

    def test_keys_that_do_not_rise(self):
        self.assertEqual(answer_to(4, bar((4, 64, 60))), [-1])
        self.assertEqual(answer_to(4, bar((4, 60, 67, 64))), [-1])

    def test_two_keys_that_are_the_same(self):
        self.assertEqual(answer_to(4, bar((4, 60, 60))), [-1])
        self.assertEqual(answer_to(4, bar((4, 0, 0))), [-1])

    def test_keys_rise_within_an_item_alone(self):
        falling = bar((2, 64), (2, 60))
        self.assertEqual(kept(4, falling), shown(falling))

    def test_key_0(self):
        self.assertEqual(kept(4, note(4, 0)), shown(note(4, 0)))

    def test_key_127(self):
        self.assertEqual(kept(4, bar((4, 126, 127))), shown(bar((4, 126, 127))))

    def test_key_128(self):
        self.assertEqual(answer_to(4, note(4, 128)), [-1])
        self.assertEqual(answer_to(4, bar((4, 127, 128))), [-1])

    def test_the_greatest_key_that_can_be_told(self):
        self.assertEqual(answer_to(4, note(4, 4294967295)), [-1])


class Rests(unittest.TestCase):
    def test_told_by_one_rest(self):
        self.assertEqual(kept(4, rest(4)), shown(rest(4)))

    def test_told_by_several_items(self):
        self.assertEqual(kept(4, bar((1,), (2,), (1,))), shown(rest(4)))

    def test_told_by_twenty_items(self):
        self.assertEqual(kept(20, bar(*[(1,)] * 20)), shown(rest(20)))

    def test_rests_of_a_bar_that_sounds_stay_as_told(self):
        told = bar((1,), (1,), (1, 60), (1,))
        self.assertEqual(kept(4, told), shown(told))

    def test_each_bar_by_itself(self):
        told = [bar((1,), (3,)), bar((1,), (2, 60)), bar((1,), (1,))]
        calls = [begins([4, 3, 2]), staff(*told), staves(0)]
        self.assertEqual(ask(*calls)[2], shown(rest(4), told[1], rest(2)))

    def test_both_tellings_are_drawn_alike(self):
        calls = [begins([4, 4]), staff(rest(4), bar((2,), (2,))), draw([0])]
        self.assertEqual(ask(*calls)[2], drawn(rest_piece(2)))


class HowManyStaves(unittest.TestCase):
    def test_the_eighth_and_the_ninth(self):
        calls = [begins([4])] + [staff(note(4, key)) for key in range(9)] + [staves(7), staves(8)]
        wanted = [[1]] + [[number] for number in range(8)] + [[-5], shown(note(4, 7)), [-2]]
        self.assertEqual(ask(*calls), wanted)

    def test_a_ninth_that_is_not_as_told(self):
        eight = [begins([4])] + [staff(note(4))] * 8
        for wrong in (staff(), staff(note(4), note(4)), staff(note(3)), staff(note(4, 128))):
            with self.subTest(wrong=wrong):
                self.assertEqual(ask(*eight, wrong)[9], [-1])

    def test_eight_again_behind_another_begins(self):
        eight = [begins([4])] + [staff(note(4))] * 8
        self.assertEqual(ask(*eight, *eight), 2 * ([[1]] + [[number] for number in range(8)]))

    def test_a_refused_staff_takes_no_number(self):
        calls = [begins([4]), staff(note(3)), staff(note(4)), staff(note(5)), staff(rest(4))]
        calls += [staves(0), staves(1), staves(2)]
        wanted = [[1], [-1], [0], [-1], [1], shown(note(4)), shown(rest(4)), [-2]]
        self.assertEqual(ask(*calls), wanted)


class Staves(unittest.TestCase):
    def test_a_number_that_there_is_not(self):
        calls = [begins([4]), staves(0), staff(note(4)), staves(0), staves(1), staves(4294967295)]
        self.assertEqual(ask(*calls), [[1], [-2], [0], shown(note(4)), [-2], [-2]])

    def test_ahead_of_any_begins(self):
        self.assertEqual(ask(staves(0)), [[-2]])

    def test_shows_the_same_when_asked_again(self):
        calls = [begins([4]), staff(note(4)), staves(0), draw([0]), staves(0)]
        taken = ask(*calls)
        self.assertEqual(taken[2], taken[4])


if __name__ == "__main__":
    unittest.main()
