"""The interface: how calls are read and answers given back."""

import unittest

from faircosts.kinds import answers
from tests.asking import NAMES, ask, flat

TOP = 4294967295
# One call of each number, as the interface tells its length; none is begin.
OTHERS = (("count", 0, 0, 1, 2), ("cell", 0, 0), ("pays", 1, 2), ("chances", 0, 2, [1]), ("gains", 0),
          ("picked", 0), ("most", 0), ("part", 1), ("costs", 1), ("rule", 1, 0), ("take", 1), ("meets", 1),
          ("forpart", 0, 1, 2), ("forhits", 0, 1, 2), ("ifpays", 1, 2, 3), ("state",))
CROWD = [("begin", 2), ("count", 0, 0, 8, 2), ("count", 0, 1, 2, 8), ("count", 1, 0, 5, 0), ("count", 1, 1, 5, 10)]


class Reading(unittest.TestCase):
    def test_each_call_but_begin_is_there(self):
        self.assertEqual([call[0] for call in OTHERS], list(NAMES[1:]))

    def test_empty_list(self):
        self.assertEqual(answers([]), [])

    def test_answers_stand_behind_their_counts(self):
        calls = [0, 1, 1, 0, 0, 3, 4, 2, 0, 0, 4, 0, 2, 1, 1, 5, 0, 6, 0, 0, 9]
        self.assertEqual(answers(calls), [1, 0, 1, 7, 2, 3, 4, 1, 0, 3, 0, -1, 2, 3, 0, 1, 2, 1, -22])

    def test_ahead_of_begin_all_else_is_refused(self):
        for call in OTHERS:
            self.assertEqual(ask(call), [[-11]], call)
        self.assertEqual(ask(*OTHERS), [[-11]] * 16)

    def test_ahead_of_begin_is_ahead_of_every_other_refusal(self):
        wrong = (("count", 2, 9, 100, 100), ("cell", 2, 0), ("pays", 101, 101), ("chances", 2, 0, [TOP] * 255),
                 ("gains", TOP), ("picked", TOP), ("most", TOP), ("part", 0), ("chances", 0, 0, []), ("costs", 4),
                 ("rule", 4, 2), ("take", 4), ("meets", TOP), ("forpart", 2, 1, 0), ("forhits", 2, 1, 0), ("ifpays", 4, 101, 101))
        self.assertEqual(ask(*wrong), [[-11]] * len(wrong))

    def test_a_refused_begin_begins_nothing(self):
        self.assertEqual(ask(("begin", 0), ("cell", 0, 0), ("begin", 5), ("gains", 0)), [[-22], [-11], [-22], [-11]])

    def test_rows_of_every_length_are_read(self):
        for many in (0, 1, 2, 254, 255):
            told = ask(("chances", 0, 1, [0] * many), ("begin", 3), ("chances", 0, 1, [1] * many), ("cell", 0, 2))
            self.assertEqual(told, [[-11], [0], [-22], [0, 0]], many)

    def test_a_row_of_call_numbers_is_not_taken_for_calls(self):
        self.assertEqual(ask(("begin", 4), ("chances", 1, 10, [0, 1, 2, 3]), ("cell", 1, 0)), [[0], [0], [0, 0]])

    def test_calls_behind_any_call_are_answered(self):
        for call in OTHERS:
            told = ask(("begin", 1), call, ("count", 1, 0, 7, 6), ("cell", 1, 0))
            self.assertEqual(told[2:], [[13], [7, 6]], call)

    def test_what_is_handed_in_stays_as_it_was(self):
        calls = flat(CROWD + [("pays", 3, 2), ("chances", 0, 2, [1, 2]), ("most", 3), ("part", 1), ("count", 9, 9, 9, 9)]
                     + list(OTHERS[8:]))
        before = list(calls)
        answers(calls)
        self.assertEqual(calls, before)

    def test_nothing_is_kept_from_one_time_to_the_next(self):
        calls = flat(CROWD + [("pays", 3, 2), ("chances", 0, 2, [1, 2]), ("gains", 0), ("most", 3), ("state",), ("take", 3), ("state",)])
        first = answers(calls)
        self.assertEqual(answers(flat([("gains", 0)])), [1, -11])
        self.assertEqual(answers(calls), first)
        first.append(1)
        self.assertEqual(answers(calls), first[:-1])
        self.assertEqual(ask(("begin", 1), ("cell", 0, 0), ("gains", 0), ("state",)),
                         [[0], [0, 0], [0, 0, 1], [1, 1, 1, 0, 1, 0, 1]])

    def test_a_list_of_plain_whole_numbers_is_given_back(self):
        said = answers(flat(CROWD + [("chances", 0, 3, [1, 2]), ("gains", 0), ("picked", 0), ("cell", 0, 1)]
                            + [("most", kind) for kind in range(5)] + [("part", kind) for kind in range(5)]
                            + [("meets", kind) for kind in range(5)] + [("rule", kind, 0) for kind in range(5)]
                            + list(OTHERS[8:])))
        self.assertIs(type(said), list)
        self.assertEqual({type(number) for number in said}, {int})

    def test_how_many_numbers_each_call_answers(self):
        told = ask(*CROWD, *OTHERS)[len(CROWD):]
        self.assertEqual([len(answer) for answer in told], [1, 2, 1, 1, 3, 3, 3, 3, 3, 5, 1, 1, 3, 3, 3, 11])

    def test_forty_calls(self):
        told = ask(("begin", 4), *[("count", call % 2, call % 4, call, 99) for call in range(38)], ("cell", 1, 1))
        self.assertEqual(told, [[0]] + [[call + 99] for call in range(38)] + [[37, 99]])


if __name__ == "__main__":
    unittest.main()
