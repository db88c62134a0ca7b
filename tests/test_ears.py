import unittest

from leasewatch.ears import Ear

HISTORY = [
    (1, 0, "put", "b", "one"),
    (2, 0, "put", "a", "two"),
    (3, 4, "cut", "b", ""),
    (4, 4, "put", "c", ""),
    (5, 9, "put", "a", "five"),
    (6, 9, "put", "b", "six"),
    (7, 12, "cut", "c", ""),
    (8, 12, "cut", "a", ""),
]


def row(*numbers):
    return [HISTORY[number - 1] for number in numbers]


class EarCase(unittest.TestCase):
    def setUp(self):
        self.ear = Ear()

    def hears(self, numbers, told, heard):
        """Hearing a row of these numbers tells a number; then these were taken in."""
        handed = row(*numbers)
        answer = self.ear.hear(handed)
        self.assertEqual(answer, told)
        self.assertIs(type(answer), int)
        self.assertEqual(handed, row(*numbers))
        self.assertEqual(self.ear.heard(), row(*heard))


class Hearing(EarCase):
    def test_ahead_of_any(self):
        self.assertEqual(self.ear.hear([]), 0)
        self.assertEqual(self.ear.heard(), [])
        self.assertEqual(self.ear.state(), [])

    def test_starts(self):
        for start in [1, 2, 5, 10 ** 12]:
            self.assertEqual(Ear(start).hear([]), start - 1)
            self.assertEqual(Ear(start=start).hear([]), start - 1)
            self.assertEqual(Ear(start, None).hear([]), start - 1)

    def test_rows_one_behind_the_other(self):
        self.hears([1, 2], 2, [1, 2])
        self.hears([3], 3, [1, 2, 3])
        self.hears([], 3, [1, 2, 3])
        self.hears([4, 5, 6, 7, 8], 8, [1, 2, 3, 4, 5, 6, 7, 8])

    def test_a_row_heard_twice(self):
        self.hears([1, 2, 3], 3, [1, 2, 3])
        self.hears([1, 2, 3], 3, [1, 2, 3])
        self.hears([3], 3, [1, 2, 3])
        self.hears([1], 3, [1, 2, 3])

    def test_overlapping_rows(self):
        self.hears([1, 2, 3], 3, [1, 2, 3])
        self.hears([2, 3, 4], 4, [1, 2, 3, 4])
        self.hears([1, 2, 3, 4, 5, 6], 6, [1, 2, 3, 4, 5, 6])

    def test_older_changes_behind_newer_ones(self):
        self.hears([2, 1], 2, [2])
        self.hears([3, 5, 4, 6], 6, [2, 3, 5, 6])
        self.hears([8, 7], 8, [2, 3, 5, 6, 8])

    def test_the_same_change_twice_in_a_row(self):
        self.hears([1, 1, 2, 2, 1, 3], 3, [1, 2, 3])

    def test_numbers_need_not_be_without_a_gap(self):
        self.hears([2, 5], 5, [2, 5])
        self.hears([4, 7], 7, [2, 5, 7])

    def test_a_later_start_passes_over_what_is_ahead_of_it(self):
        self.ear = Ear(4)
        self.hears([1, 2, 3], 3, [])
        self.hears([2, 3, 4], 4, [4])
        self.hears([3, 4, 5], 5, [4, 5])

    def test_a_start_at_a_change_takes_it_in(self):
        self.ear = Ear(start=6)
        self.hears([5, 6, 7], 7, [6, 7])

    def test_what_is_passed_over_changes_nothing(self):
        self.ear.hear(row(1, 2, 3))
        self.assertEqual(self.ear.state(), [("a", "two")])
        self.ear.hear(row(1))
        self.assertEqual(self.ear.state(), [("a", "two")])
        self.ear.hear([(3, 4, "cut", "a", ""), (2, 0, "put", "z", "z")])
        self.assertEqual(self.ear.state(), [("a", "two")])


class State(EarCase):
    def test_puts_and_cuts_in_the_order_of_the_keys(self):
        stands = [
            [("b", "one")],
            [("a", "two"), ("b", "one")],
            [("a", "two")],
            [("a", "two"), ("c", "")],
            [("a", "five"), ("c", "")],
            [("a", "five"), ("b", "six"), ("c", "")],
            [("a", "five"), ("b", "six")],
            [("b", "six")],
        ]
        for number, pairs in enumerate(stands, 1):
            self.ear.hear(row(number))
            self.assertEqual(self.ear.state(), pairs)

    def test_a_whole_row_at_once(self):
        self.ear.hear(HISTORY)
        self.assertEqual(self.ear.state(), [("b", "six")])

    def test_keys_in_the_order_of_texts(self):
        keys = ["b", "10", "9", "a", "Z", "aa", "~", " ", "a!"]
        self.ear.hear([(at, 0, "put", key, key) for at, key in enumerate(keys, 1)])
        self.assertEqual([key for key, _ in self.ear.state()], [" ", "10", "9", "Z", "a", "a!", "aa", "b", "~"])

    def test_a_cut_of_a_key_that_does_not_stand_by_the_ear(self):
        self.ear = Ear(3)
        self.hears([3, 4], 4, [3, 4])
        self.assertEqual(self.ear.state(), [("c", "")])
        self.assertEqual(self.ear.hear(row(7, 8)), 8)
        self.assertEqual(self.ear.state(), [])

    def test_pairs_as_a_list_as_a_tuple_and_none(self):
        pairs = [("b", "1"), ("a", "2"), ("aa", "")]
        stands = [("a", "2"), ("aa", ""), ("b", "1")]
        for ear in [Ear(1, pairs), Ear(1, tuple(pairs)), Ear(pairs=pairs), Ear(start=1, pairs=tuple(pairs))]:
            self.assertEqual(ear.state(), stands)
            self.assertEqual(ear.heard(), [])
            self.assertEqual(ear.hear([]), 0)
        self.assertEqual(Ear(1, [["b", "1"], ["a", "2"]]).state(), [("a", "2"), ("b", "1")])
        for ear in [Ear(), Ear(1), Ear(1, None), Ear(1, []), Ear(1, ()), Ear(pairs=None)]:
            self.assertEqual(ear.state(), [])

    def test_pairs_and_then_what_was_heard(self):
        self.ear = Ear(5, [("a", "old"), ("c", "old"), ("z", "old")])
        self.hears([4, 5, 6], 6, [5, 6])
        self.assertEqual(self.ear.state(), [("a", "five"), ("b", "six"), ("c", "old"), ("z", "old")])
        self.hears([7], 7, [5, 6, 7])
        self.assertEqual(self.ear.state(), [("a", "five"), ("b", "six"), ("z", "old")])
        self.hears([8], 8, [5, 6, 7, 8])
        self.assertEqual(self.ear.state(), [("b", "six"), ("z", "old")])

    def test_a_key_that_stood_and_was_cut_is_put_again(self):
        self.ear = Ear(1, (("k", "first"),))
        self.ear.hear([(1, 0, "cut", "k", "")])
        self.assertEqual(self.ear.state(), [])
        self.ear.hear([(2, 0, "put", "k", "second")])
        self.assertEqual(self.ear.state(), [("k", "second")])

    def test_kinds_of_what_is_told(self):
        self.ear.hear(row(1, 2))
        for told in [self.ear.heard(), self.ear.state()]:
            self.assertIs(type(told), list)
            self.assertIs(type(told[0]), tuple)


class Lists(EarCase):
    def test_pairs_that_are_handed_in_may_change_later(self):
        pairs = [("a", "1"), ("b", "2")]
        ear = Ear(1, pairs)
        pairs.append(("c", "3"))
        pairs[0] = ("z", "z")
        self.assertEqual(ear.state(), [("a", "1"), ("b", "2")])
        pairs.clear()
        self.assertEqual(ear.state(), [("a", "1"), ("b", "2")])

    def test_pairs_that_are_handed_in_are_not_changed(self):
        pairs = [("b", "1"), ("a", "2")]
        ear = Ear(1, pairs)
        ear.hear([(1, 0, "cut", "a", ""), (2, 0, "put", "c", "x")])
        ear.state().clear()
        self.assertEqual(pairs, [("b", "1"), ("a", "2")])

    def test_pairs_that_are_lists_may_change_later(self):
        pairs = [["a", "1"], ["b", "2"]]
        ear = Ear(1, pairs)
        pairs[0][1] = "z"
        self.assertEqual(ear.state(), [("a", "1"), ("b", "2")])

    def test_rows_that_are_handed_in_may_change_later(self):
        handed = row(1, 2, 3)
        self.ear.hear(handed)
        handed.append(HISTORY[3])
        handed[0] = HISTORY[7]
        self.assertEqual(self.ear.heard(), row(1, 2, 3))
        handed.clear()
        self.assertEqual(self.ear.heard(), row(1, 2, 3))
        self.hears([2, 3, 4], 4, [1, 2, 3, 4])

    def test_lists_that_are_told_are_the_askers_own(self):
        self.ear.hear(row(1, 2))
        for told in [self.ear.heard, self.ear.state]:
            before = told()
            mine = told()
            mine.append(HISTORY[7])
            mine[0] = HISTORY[6]
            self.assertEqual(told(), before)
            told().clear()
            self.assertEqual(told(), before)
        self.hears([3], 3, [1, 2, 3])

    def test_lists_that_were_told_do_not_change_later(self):
        self.ear.hear(row(1))
        heard = self.ear.heard()
        state = self.ear.state()
        self.ear.hear(row(2, 3))
        self.assertEqual(heard, row(1))
        self.assertEqual(state, [("b", "one")])

    def test_what_one_ear_heard_another_may_hear(self):
        self.ear.hear(HISTORY)
        other = Ear()
        self.assertEqual(other.hear(self.ear.heard()), 8)
        self.assertEqual(other.state(), self.ear.state())

    def test_two_ears_have_nothing_to_do_with_each_other(self):
        other = Ear()
        self.ear.hear(row(1, 2))
        self.assertEqual((other.heard(), other.state(), other.hear([])), ([], [], 0))


if __name__ == "__main__":
    unittest.main()
