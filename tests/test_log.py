import unittest

from leasewatch.log import Log

KEYS = ["a", "ab", "b", "abc", "a", "ba", "ab", "c"]
# More digits than Python is willing to write out.
FAR = 10 ** 5000


def filled(keys=KEYS):
    log = Log()
    for at, key in enumerate(keys):
        log.note(10 * at, "put", key, f"v{at + 1}")
    return log


def change(number, keys=KEYS):
    return (number, 10 * (number - 1), "put", keys[number - 1], f"v{number}")


class Noting(unittest.TestCase):
    def test_ahead_of_any(self):
        log = Log()
        self.assertEqual(log.last(), 0)
        self.assertEqual(log.first(), 1)
        self.assertEqual(log.wanted("", 0, 10), [])

    def test_numbers_go_on_from_one(self):
        log = Log()
        for number in range(1, 60):
            self.assertEqual(log.note(7, "put", "k", "v"), number)
            self.assertEqual(log.last(), number)
            self.assertEqual(log.first(), 1)

    def test_a_change_is_kept_as_it_was_noted(self):
        log = Log()
        log.note(0, "put", "a", "one")
        log.note(0, "cut", "a", "")
        log.note(10 ** 12, "put", "~ z", "")
        self.assertEqual(
            log.wanted("", 0, 9),
            [(1, 0, "put", "a", "one"), (2, 0, "cut", "a", ""), (3, 10 ** 12, "put", "~ z", "")],
        )

    def test_kinds_of_what_is_told(self):
        log = Log()
        self.assertIs(type(log.note(3, "put", "a", "b")), int)
        self.assertIs(type(log.last()), int)
        self.assertIs(type(log.first()), int)
        told = log.wanted("", 0, 1)
        self.assertIs(type(told), list)
        self.assertIs(type(told[0]), tuple)
        self.assertEqual([type(part) for part in told[0]], [int, int, str, str, str])
        self.assertIs(type(log.forget(1)), int)


class Wanting(unittest.TestCase):
    def setUp(self):
        self.log = filled()

    def numbers(self, prefix, behind, most):
        told = self.log.wanted(prefix, behind, most)
        self.assertEqual(told, [change(number) for number, *_ in told])
        return [number for number, *_ in told]

    def test_the_empty_prefix_fits_all(self):
        self.assertEqual(self.numbers("", 0, 100), [1, 2, 3, 4, 5, 6, 7, 8])

    def test_prefixes_that_fit(self):
        self.assertEqual(self.numbers("a", 0, 100), [1, 2, 4, 5, 7])
        self.assertEqual(self.numbers("b", 0, 100), [3, 6])

    def test_a_prefix_that_is_a_whole_key(self):
        self.assertEqual(self.numbers("ab", 0, 100), [2, 4, 7])
        self.assertEqual(self.numbers("abc", 0, 100), [4])
        self.assertEqual(self.numbers("c", 0, 100), [8])

    def test_a_prefix_that_is_longer_than_any_key(self):
        self.assertEqual(self.numbers("abcd", 0, 100), [])
        self.assertEqual(self.numbers("cc", 0, 100), [])
        self.assertEqual(self.numbers("a" * 20, 0, 100), [])

    def test_a_prefix_in_the_midst_or_at_the_end_of_a_key_does_not_count(self):
        self.assertEqual(self.numbers("bc", 0, 100), [])
        self.log = filled(["xay", "ay", "aya"])
        self.assertEqual([row[0] for row in self.log.wanted("ay", 0, 9)], [2, 3])

    def test_small_and_capital_signs_differ(self):
        self.assertEqual(self.numbers("A", 0, 100), [])

    def test_behind(self):
        self.assertEqual(self.numbers("", 1, 100), [2, 3, 4, 5, 6, 7, 8])
        self.assertEqual(self.numbers("", 7, 100), [8])
        self.assertEqual(self.numbers("a", 4, 100), [5, 7])
        self.assertEqual(self.numbers("a", 5, 100), [7])

    def test_behind_at_the_last_one_and_beyond_it(self):
        for behind in [8, 9, 10, 1000, 10 ** 12, FAR]:
            self.assertEqual(self.log.wanted("", behind, 100), [])

    def test_behind_below_the_first_one(self):
        for behind in [0, -1, -2, -8, -9, -10 ** 12, -FAR]:
            self.assertEqual(self.numbers("", behind, 100), [1, 2, 3, 4, 5, 6, 7, 8])

    def test_behind_about_the_first_one_that_is_kept(self):
        self.log.forget(3)
        for behind in [-FAR, -3, -1, 0, 1, 2, 3]:
            self.assertEqual(self.numbers("", behind, 100), [4, 5, 6, 7, 8])
            self.assertEqual(self.numbers("a", behind, 2), [4, 5])
        self.assertEqual(self.numbers("", 4, 100), [5, 6, 7, 8])
        self.assertEqual(self.numbers("", 5, 100), [6, 7, 8])
        self.assertEqual(self.numbers("", 7, 100), [8])
        self.assertEqual(self.numbers("", 8, 100), [])
        self.assertEqual(self.numbers("", 9, 100), [])

    def test_no_more_than_asked_for(self):
        self.assertEqual(self.numbers("", 0, 0), [])
        self.assertEqual(self.numbers("", 0, 1), [1])
        self.assertEqual(self.numbers("", 0, 7), [1, 2, 3, 4, 5, 6, 7])
        self.assertEqual(self.numbers("", 0, 8), [1, 2, 3, 4, 5, 6, 7, 8])
        self.assertEqual(self.numbers("", 0, 9), [1, 2, 3, 4, 5, 6, 7, 8])
        self.assertEqual(self.numbers("", 0, FAR), [1, 2, 3, 4, 5, 6, 7, 8])

    def test_only_those_that_fit_are_counted(self):
        self.assertEqual(self.numbers("a", 0, 3), [1, 2, 4])
        self.assertEqual(self.numbers("a", 2, 2), [4, 5])
        self.assertEqual(self.numbers("a", 0, 5), [1, 2, 4, 5, 7])
        self.assertEqual(self.numbers("b", 0, 1), [3])

    def test_fewer_than_none_are_none(self):
        for most in [-1, -2, -FAR]:
            self.assertEqual(self.log.wanted("", 0, most), [])

    def test_cuts_are_wanted_as_puts_are(self):
        log = Log()
        log.note(0, "put", "a", "x")
        log.note(5, "cut", "a", "")
        log.note(5, "cut", "b", "")
        self.assertEqual(log.wanted("a", 0, 9), [(1, 0, "put", "a", "x"), (2, 5, "cut", "a", "")])

    def test_asking_changes_nothing(self):
        for _ in range(3):
            self.assertEqual(self.numbers("a", 1, 2), [2, 4])
        self.assertEqual((self.log.first(), self.log.last()), (1, 8))

    def test_the_list_is_the_askers_own(self):
        told = self.log.wanted("", 0, 100)
        told[0] = (1, 0, "cut", "z", "")
        told.append((9, 0, "put", "z", "z"))
        del told[3]
        self.assertEqual(self.numbers("", 0, 100), [1, 2, 3, 4, 5, 6, 7, 8])
        told = self.log.wanted("", 0, 100)
        told.clear()
        self.assertEqual(self.numbers("", 0, 100), [1, 2, 3, 4, 5, 6, 7, 8])
        self.assertEqual(self.log.last(), 8)
        empty = self.log.wanted("", 8, 5)
        empty.append((9, 0, "put", "z", "z"))
        self.assertEqual(self.log.wanted("", 8, 5), [])
        self.assertEqual(self.log.note(80, "put", "n", "n"), 9)

    def test_a_told_list_does_not_change_later(self):
        told = self.log.wanted("", 6, 100)
        self.log.note(1, "put", "a", "b")
        self.log.forget(100)
        self.assertEqual(told, [change(7), change(8)])


class Forgetting(unittest.TestCase):
    def setUp(self):
        self.log = filled()

    def check(self, upto, many, first, last=8):
        """Forgetting up to a number forgets so many; then these are the first and the last one."""
        self.assertEqual(self.log.forget(upto), many)
        self.assertEqual(self.log.first(), first)
        self.assertEqual(self.log.last(), last)
        self.assertEqual([row[0] for row in self.log.wanted("", 0, 100)], list(range(first, last + 1)))

    def test_of_an_empty_log(self):
        self.log = Log()
        for upto in [-FAR, -1, 0, 1, 2, 100, FAR]:
            self.check(upto, 0, 1, 0)
        self.assertEqual(self.log.note(0, "put", "a", ""), 1)

    def test_none(self):
        for upto in [0, -1, -2, -8, -10 ** 12, -FAR]:
            self.check(upto, 0, 1)

    def test_some(self):
        self.check(1, 1, 2)
        self.check(3, 2, 4)
        self.check(7, 4, 8)

    def test_what_is_kept_stays_as_it_was(self):
        self.log.forget(5)
        self.assertEqual(self.log.wanted("", 0, 100), [change(6), change(7), change(8)])
        self.assertEqual(self.log.wanted("a", 0, 100), [change(7)])

    def test_all(self):
        self.check(8, 8, 9)

    def test_up_to_a_number_behind_the_last_one(self):
        for upto in [9, 10, 1000, 10 ** 12, FAR]:
            self.log = filled()
            self.check(upto, 8, 9)
            self.assertEqual(self.log.note(99, "put", "n", "n"), 9)
            self.assertEqual(self.log.first(), 9)
            self.assertEqual(self.log.last(), 9)
            self.assertEqual(self.log.wanted("", 0, 9), [(9, 99, "put", "n", "n")])

    def test_the_same_number_twice(self):
        self.check(3, 3, 4)
        self.check(3, 0, 4)
        self.check(8, 5, 9)
        self.check(8, 0, 9)
        self.check(20, 0, 9)

    def test_a_lesser_number_afterwards(self):
        self.check(5, 5, 6)
        for upto in [4, 1, 0, -1, -FAR]:
            self.check(upto, 0, 6)
        self.check(6, 1, 7)

    def test_numbers_go_on_behind_a_forgetting_of_all(self):
        self.check(8, 8, 9)
        self.assertEqual(self.log.note(80, "cut", "a", ""), 9)
        self.assertEqual(self.log.note(90, "put", "b", "x"), 10)
        self.assertEqual(self.log.first(), 9)
        self.assertEqual(self.log.last(), 10)
        self.assertEqual(self.log.wanted("", 0, 9), [(9, 80, "cut", "a", ""), (10, 90, "put", "b", "x")])
        self.check(9, 1, 10, 10)
        self.check(10, 1, 11, 10)
        self.assertEqual(self.log.note(90, "put", "b", "x"), 11)


class SideBySide(unittest.TestCase):
    def test_two_have_nothing_to_do_with_each_other(self):
        one = filled()
        two = Log()
        self.assertEqual(two.last(), 0)
        self.assertEqual(two.note(1, "put", "x", "y"), 1)
        one.forget(8)
        self.assertEqual(two.first(), 1)
        self.assertEqual(two.wanted("", 0, 9), [(1, 1, "put", "x", "y")])
        self.assertEqual(one.last(), 8)


if __name__ == "__main__":
    unittest.main()
