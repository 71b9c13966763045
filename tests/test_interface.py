"""The interface: one list of whole numbers in, one list of whole numbers out."""

import inspect
import pathlib
import re
import unittest

from partscore.score import answers
from telling import (
    ask, back, bar, begins, cue_piece, draw, lined, note, parted, rest, rest_piece, staff, staff_lists, staves,
    told_bars, two,
)

CALLS = (
    begins([4, 4, 4], [2])
    + staff(rest(4), rest(4), note(4))
    + staff(note(4, 61), note(4, 62), rest(4))
    + staves(1)
    + draw([0], 2)
    + back(1, rest_piece(1), cue_piece(1, note(4, 62)), told_bars(note(4)))
    + two(0, 1)
    + parted(lined(2, note(4, 61)), lined(0, note(4, 62)), lined(1, note(4)))
    + draw([5])
    + begins([65])
    + back(0)
    + two(0, 2)
    + parted()
    + begins([])
)

# Each answer behind how many numbers it has: begins, two staff, staves, draw,
# back, two, parted, five refusals, begins.
ANSWERS = [
    1, 3,
    1, 0,
    1, 1,
    13, 0, 11, 1, 4, 1, 61, 1, 4, 1, 62, 1, 4, 0,
    17, 3, 2, 0, 1, 6, 2, 1, 1, 4, 1, 62, 5, 1, 1, 4, 1, 60,
    12, 1, 10, 1, 4, 0, 1, 4, 0, 1, 4, 1, 60,
    22, 3, 6, 2, 1, 1, 4, 1, 61, 6, 0, 1, 1, 4, 1, 62, 6, 1, 1, 1, 4, 1, 60,
    24, 3, 10, 1, 4, 0, 1, 4, 0, 1, 4, 1, 60, 11, 1, 4, 1, 61, 1, 4, 1, 62, 1, 4, 0,
    1, -2,
    1, -1,
    1, -1,
    1, -2,
    1, -1,
    1, 0,
]


class Interface(unittest.TestCase):
    def test_the_argument_is_called_calls(self):
        self.assertEqual(list(inspect.signature(answers).parameters), ["calls"])

    def test_one_call(self):
        self.assertEqual(answers([0, 2, 4, 3, 0]), [1, 2])

    def test_the_readmes_example(self):
        readme = pathlib.Path(__file__).resolve().parent.parent / "README.md"
        told = re.search(r"\n    answers\((\[.*?\])\).*?\n    # (\[.*?\])\n", readme.read_text("utf-8"), re.DOTALL)
        calls, wanted = [
            [int(number) for number in re.findall(r"[0-9]+", re.sub(r"#.*", "", text))]
            for text in told.groups()
        ]
        self.assertEqual(answers(calls), wanted)

    def test_several_calls_one_behind_another(self):
        self.assertEqual(answers(list(CALLS)), ANSWERS)

    def test_whole_numbers_in_a_list(self):
        told = answers(list(CALLS))
        self.assertIs(type(told), list)
        self.assertEqual({type(number) for number in told}, {int})

    def test_the_list_handed_in_is_the_same_afterwards(self):
        handed = list(CALLS)
        answers(handed)
        self.assertEqual(handed, CALLS)

    def test_asked_twice_the_same_answer(self):
        handed = list(CALLS)
        first = answers(handed)
        self.assertEqual(answers(handed), first)
        self.assertEqual(first, ANSWERS)

    def test_nothing_is_kept_from_one_time_to_the_next(self):
        answers(begins([4]) + staff(note(4)))
        self.assertEqual(answers(staves(0)), [1, -2])
        self.assertEqual(answers(staff()), [1, 0])

    def test_an_answer_changed_by_the_asker_changes_no_other(self):
        first = answers(list(CALLS))
        first.clear()
        self.assertEqual(answers(list(CALLS)), ANSWERS)

    def test_sixty_calls(self):
        calls = [begins([4]), staff(note(4))] + [staves(0)] * 58
        self.assertEqual(ask(*calls)[-1], [0, 4, 1, 4, 1, 60])

    def test_sixty_calls_of_all_kinds(self):
        kinds = [
            staves(0), draw([0], 1), back(1, told_bars(note(4))), two(0, 1), parted(lined(1, note(4))),
            begins([65]), staff(note(3)),
        ]
        calls = [begins([4]), staff(note(4)), staff(rest(4))] + (kinds * 9)[:57]
        taken = ask(*calls)
        once = taken[3:10]
        self.assertEqual(once, [
            [0, 4, 1, 4, 1, 60], [1, 5, 1, 1, 4, 1, 60], [1, 4, 1, 4, 1, 60], [1, 6, 1, 1, 1, 4, 1, 60],
            [1, 4, 1, 4, 1, 60, 3, 1, 4, 0], [-1], [-1],
        ])
        self.assertEqual(taken, [[1], [0], [1]] + (once * 9)[:57])

    def test_a_list_of_nearly_30000_numbers_in_a_call(self):
        bars = [bar(*[(1, number, 50 + number, 100)] * 18) for number in range(8)]
        told = back(8, *[told_bars(*bars)] * 40)
        self.assertTrue(29000 < told[2] <= 30000)
        self.assertEqual(ask(begins([18] * 40), told)[1], staff_lists(8, *[[one] * 40 for one in bars]))

    def test_a_list_of_31000_numbers(self):
        full = bar(*[(1, 1, 2, 3, 4, 5, 6)] * 20)
        wide = bar(*[(1, 1, 2)] * 20)
        wider = bar(*[(1, 1, 2, 3)] * 20)
        short = bar(*[(3, 60)] * 5, (5, 61, 62))
        calls = [
            begins([20] * 40),
            staff(*[full] * 40),
            staff(*[wide] * 40),
            staff(*[wider] * 40),
            parted(*[lined(0, full, full)] * 40),
            parted(lined(4, wide), *[lined(0, wide)] * 39),
            back(1, *[told_bars(short)] * 40),
        ]
        calls += [staves(1)] * 29
        self.assertEqual(sum([len(told) for told in calls]), 31000)
        taken = ask(*calls)
        self.assertEqual(taken[:4], [[40], [0], [1], [2]])
        self.assertEqual(taken[4], staff_lists(40, [full] * 40, [full] * 40))
        self.assertEqual(taken[5], staff_lists(40, [bar(*[(1, 2)] * 20)] * 40, [bar(*[(1, 1)] * 20)] * 40))
        self.assertEqual(taken[6], staff_lists(1, [short] * 40))
        self.assertEqual(taken[7:], [staff_lists(0, [wide] * 40)] * 29)

    def test_the_longest_staff(self):
        full = [20] + [1, 6, 1, 2, 3, 4, 5, 6] * 20
        calls = [begins([20] * 40), staff(*[full] * 40), staves(0), draw([0])]
        taken = ask(*calls)
        self.assertEqual(taken[2], [0, 40 * len(full)] + full * 40)
        self.assertEqual(taken[3], [40] + ([len(full) + 1, 1] + full) * 40)


if __name__ == "__main__":
    unittest.main()
