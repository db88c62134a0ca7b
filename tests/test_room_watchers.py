import unittest

from leasewatch.errors import NoStart, NoWatch
from leasewatch.room import Room
from looks import changes, refused, watchers

FAR = 10 ** 5000
NOBODY = [0, -1, -2, 10 ** 12, -10 ** 12, FAR]


def put_all(room, keys):
    for key in keys:
        room.put(key, key.upper())


class RoomCase(unittest.TestCase):
    """A room with eight changes."""

    def setUp(self):
        self.room = Room()
        put_all(self.room, ["a", "b", "ab", "c", "a", "b", "ac", "d"])

    def refused(self, kind, call, *args):
        refused(self, kind, self.room, call, *args)

    def numbers(self, watcher, most):
        """The numbers that a pull tells, each beside its change as it was made."""
        told = self.room.pull(watcher, most)
        self.assertIs(type(told), list)
        held = {row[0]: row for row in changes(self.room)}
        self.assertEqual(told, [held[row[0]] for row in told])
        return [row[0] for row in told]


class Watching(RoomCase):
    def test_numbers_go_on_from_one(self):
        given = [self.room.watch("a", start) for start in range(1, 10)]
        self.assertEqual(given, list(range(1, 10)))
        self.assertTrue(all(type(watcher) is int for watcher in given))

    def test_starts_from_the_first_kept_one_to_the_next_one_to_come(self):
        for start in range(1, 10):
            watcher = self.room.watch("", start)
            self.assertEqual(self.numbers(watcher, 99), list(range(start, 9)))

    def test_starts_outside_are_refused_and_take_no_number(self):
        for start in [0, 10, -1, -2, 11, 10 ** 12, -10 ** 12, FAR, -FAR]:
            self.refused(NoStart, self.room.watch, "", start)
        self.assertEqual(self.room.watch("", 1), 1)
        self.refused(NoStart, self.room.watch, "", 0)
        self.refused(NoStart, self.room.watch, "", 10)
        self.assertEqual(self.room.watch("", 1), 2)

    def test_of_an_empty_room(self):
        self.room = Room()
        for start in [0, -1, 2, 3]:
            self.refused(NoStart, self.room.watch, "", start)
        watcher = self.room.watch("", 1)
        self.assertEqual(self.room.pull(watcher, 9), [])
        self.room.put("x", "y")
        self.assertEqual(self.room.pull(watcher, 9), [(1, 0, "put", "x", "y")])

    def test_behind_a_trimming(self):
        self.room.watch("", 4)
        self.assertEqual(self.room.trim(), 3)
        for start in [0, 1, 2, 3, 10, 11]:
            self.refused(NoStart, self.room.watch, "", start)
        self.assertEqual(self.numbers(self.room.watch("", 4), 99), [4, 5, 6, 7, 8])
        self.assertEqual(self.numbers(self.room.watch("", 9), 99), [])

    def test_behind_a_trimming_of_all(self):
        self.room.trim()
        for start in [0, 1, 7, 8, 10]:
            self.refused(NoStart, self.room.watch, "", start)
        watcher = self.room.watch("", 9)
        self.room.put("x", "y")
        self.assertEqual(self.numbers(watcher, 99), [9])

    def test_a_start_at_the_next_one_to_come(self):
        watcher = self.room.watch("a", 9)
        self.assertEqual(self.numbers(watcher, 99), [])
        put_all(self.room, ["b", "a", "c", "ab"])
        self.assertEqual(self.numbers(watcher, 99), [10, 12])

    def test_a_watcher_is_no_change(self):
        self.room.watch("", 1)
        self.assertEqual(self.room.last(), 8)


class Pulling(RoomCase):
    def test_none_fewer_just_as_many_and_more(self):
        watcher = self.room.watch("", 3)
        self.assertEqual(self.numbers(watcher, 0), [])
        self.assertEqual(self.numbers(watcher, 1), [3])
        self.assertEqual(self.numbers(watcher, 2), [4, 5])
        self.assertEqual(self.numbers(watcher, 0), [])
        self.assertEqual(self.numbers(watcher, 3), [6, 7, 8])
        self.assertEqual(self.numbers(watcher, 1), [])
        self.assertEqual(self.numbers(watcher, 99), [])
        self.assertEqual(self.numbers(watcher, 0), [])
        self.assertEqual(self.numbers(self.room.watch("", 3), 6), [3, 4, 5, 6, 7, 8])
        self.assertEqual(self.numbers(self.room.watch("", 3), 7), [3, 4, 5, 6, 7, 8])
        self.assertEqual(self.numbers(self.room.watch("", 3), FAR), [3, 4, 5, 6, 7, 8])

    def test_by_a_prefix_that_passes_changes_over(self):
        watcher = self.room.watch("a", 1)
        self.assertEqual(self.numbers(watcher, 2), [1, 3])
        self.assertEqual(self.numbers(watcher, 1), [5])
        self.assertEqual(self.numbers(watcher, 9), [7])
        self.assertEqual(self.numbers(watcher, 9), [])
        self.assertEqual(self.numbers(self.room.watch("ab", 2), 9), [3])
        self.assertEqual(self.numbers(self.room.watch("ac", 1), 1), [7])
        self.assertEqual(self.numbers(self.room.watch("abc", 1), 9), [])

    def test_what_is_told_once_is_not_told_again(self):
        watcher = self.room.watch("", 1)
        self.numbers(watcher, 3)
        self.assertEqual(self.numbers(watcher, 99), [4, 5, 6, 7, 8])
        put_all(self.room, ["x", "y"])
        self.assertEqual(self.numbers(watcher, 99), [9, 10])

    def test_cuts_and_ends_are_told(self):
        room = Room()
        room.grant(4)
        watcher = room.watch("k", 1)
        room.put("k1", "v", 1)
        room.put("other", "v", 1)
        room.put("k2", "v")
        room.cut("k2")
        room.wait(9)
        self.assertEqual(
            room.pull(watcher, 9),
            [
                (1, 0, "put", "k1", "v"),
                (3, 0, "put", "k2", "v"),
                (4, 0, "cut", "k2", ""),
                (5, 4, "cut", "k1", ""),
            ],
        )

    def test_watchers_have_nothing_to_do_with_each_other(self):
        one = self.room.watch("a", 1)
        two = self.room.watch("", 1)
        three = self.room.watch("a", 1)
        self.assertEqual(self.numbers(one, 2), [1, 3])
        self.assertEqual(self.numbers(two, 2), [1, 2])
        self.room.confirm(one)
        self.room.broken(two)
        self.assertEqual(self.numbers(three, 9), [1, 3, 5, 7])
        self.assertEqual(self.numbers(one, 9), [5, 7])
        self.assertEqual(self.numbers(two, 3), [1, 2, 3])

    def test_fewer_than_none_are_none(self):
        watcher = self.room.watch("", 1)
        for most in [-1, -5, -FAR]:
            self.assertEqual(self.room.pull(watcher, most), [])
        self.room.confirm(watcher)
        self.assertEqual(self.room.trim(), 0)

    def test_the_list_is_the_askers_own(self):
        watcher = self.room.watch("", 1)
        told = self.room.pull(watcher, 99)
        told[0] = (1, 5, "cut", "z", "")
        told.append((9, 0, "put", "z", "z"))
        told.reverse()
        del told[2:]
        self.room.broken(watcher)
        self.assertEqual(self.numbers(watcher, 99), [1, 2, 3, 4, 5, 6, 7, 8])
        self.assertEqual(self.room.last(), 8)
        empty = self.room.pull(watcher, 99)
        empty.append((9, 0, "put", "z", "z"))
        self.assertEqual(self.room.pull(watcher, 99), [])

    def test_a_told_list_does_not_change_later(self):
        told = self.room.pull(self.room.watch("", 7), 99)
        self.room.put("x", "y")
        self.room.leave(1)
        self.room.trim()
        self.assertEqual(told, [(7, 0, "put", "ac", "AC"), (8, 0, "put", "d", "D")])


class Confirming(RoomCase):
    def had(self, watcher):
        """The changes that the watcher would be told if its line broke."""
        return [row[0] for row in watchers(self.room)[watcher][1]]

    def test_answers_none(self):
        watcher = self.room.watch("", 1)
        self.room.pull(watcher, 1)
        self.assertIsNone(self.room.confirm(watcher))
        self.assertIsNone(self.room.broken(watcher))
        self.assertIsNone(self.room.leave(watcher))

    def test_broken_ahead_of_any_confirming(self):
        watcher = self.room.watch("", 3)
        self.numbers(watcher, 2)
        self.room.broken(watcher)
        self.assertEqual(self.numbers(watcher, 99), [3, 4, 5, 6, 7, 8])
        self.room.broken(watcher)
        self.assertEqual(self.numbers(watcher, 1), [3])

    def test_broken_behind_a_confirming(self):
        watcher = self.room.watch("", 1)
        self.numbers(watcher, 3)
        self.room.confirm(watcher)
        self.assertEqual(self.numbers(watcher, 2), [4, 5])
        self.room.broken(watcher)
        self.assertEqual(self.numbers(watcher, 99), [4, 5, 6, 7, 8])
        self.room.confirm(watcher)
        self.room.broken(watcher)
        self.assertEqual(self.numbers(watcher, 99), [])

    def test_a_confirming_takes_all_pulls_ahead_of_it(self):
        watcher = self.room.watch("", 1)
        self.numbers(watcher, 2)
        self.numbers(watcher, 2)
        self.room.confirm(watcher)
        self.room.broken(watcher)
        self.assertEqual(self.numbers(watcher, 99), [5, 6, 7, 8])

    def test_broken_ahead_of_any_pull(self):
        watcher = self.room.watch("a", 2)
        self.room.broken(watcher)
        self.room.broken(watcher)
        self.assertEqual(self.numbers(watcher, 99), [3, 5, 7])

    def test_confirm_ahead_of_any_pull(self):
        watcher = self.room.watch("", 4)
        self.room.confirm(watcher)
        self.assertEqual(self.numbers(watcher, 99), [4, 5, 6, 7, 8])

    def test_confirm_twice(self):
        watcher = self.room.watch("", 1)
        self.numbers(watcher, 3)
        self.room.confirm(watcher)
        self.room.confirm(watcher)
        self.assertEqual(self.had(watcher), [4, 5, 6, 7, 8])
        self.assertEqual(self.numbers(watcher, 2), [4, 5])
        self.assertEqual(self.had(watcher), [4, 5, 6, 7, 8])

    def test_confirm_behind_broken_confirms_nothing_that_was_lost(self):
        watcher = self.room.watch("", 1)
        self.numbers(watcher, 2)
        self.room.confirm(watcher)
        self.numbers(watcher, 3)
        self.room.broken(watcher)
        self.room.confirm(watcher)
        self.assertEqual(self.numbers(watcher, 99), [3, 4, 5, 6, 7, 8])

    def test_without_confirming_the_next_pull_goes_on(self):
        watcher = self.room.watch("", 1)
        self.numbers(watcher, 2)
        self.assertEqual(self.numbers(watcher, 2), [3, 4])

    def test_fewer_than_asked_for_and_then_confirm_all_is_had(self):
        watcher = self.room.watch("ab", 1)
        self.assertEqual(self.numbers(watcher, 2), [3])
        self.room.confirm(watcher)
        self.assertEqual(self.room.trim(), 8)
        self.assertEqual(self.room.first(), 9)

    def test_just_as_many_and_then_confirm_it_is_had_up_to_the_last_of_them(self):
        watcher = self.room.watch("ab", 1)
        self.assertEqual(self.numbers(watcher, 1), [3])
        self.room.confirm(watcher)
        self.assertEqual(self.room.trim(), 3)
        self.assertEqual(self.room.first(), 4)

    def test_none_of_those_there_are_and_then_confirm_all_is_had(self):
        watcher = self.room.watch("zz", 1)
        self.assertEqual(self.numbers(watcher, 1), [])
        self.room.confirm(watcher)
        self.assertEqual(self.room.trim(), 8)

    def test_a_pull_of_none_tells_none(self):
        for prefix in ["", "a", "zz"]:
            watcher = self.room.watch(prefix, 1)
            self.assertEqual(self.room.pull(watcher, 0), [])
            self.room.confirm(watcher)
        self.assertEqual(self.room.trim(), 0)
        self.assertEqual(self.numbers(1, 99), [1, 2, 3, 4, 5, 6, 7, 8])

    def test_a_pull_of_none_behind_another_one_takes_nothing_back(self):
        watcher = self.room.watch("", 1)
        self.numbers(watcher, 4)
        self.assertEqual(self.room.pull(watcher, 0), [])
        self.room.confirm(watcher)
        self.assertEqual(self.room.trim(), 4)


class Nobody(RoomCase):
    def refused_all(self, watcher):
        for most in [0, 1, 99]:
            self.refused(NoWatch, self.room.pull, watcher, most)
        self.refused(NoWatch, self.room.confirm, watcher)
        self.refused(NoWatch, self.room.broken, watcher)
        self.refused(NoWatch, self.room.leave, watcher)

    def test_none_was_there(self):
        for watcher in NOBODY + [1, 2]:
            self.refused_all(watcher)

    def test_a_watcher_that_never_was(self):
        self.room.watch("", 1)
        self.room.watch("", 3)
        self.room.pull(1, 2)
        for watcher in NOBODY + [3, 4]:
            self.refused_all(watcher)

    def test_a_watcher_that_has_left(self):
        for _ in range(3):
            self.room.watch("", 1)
        self.room.pull(2, 3)
        self.room.leave(2)
        self.refused_all(2)
        self.assertEqual(self.numbers(1, 1), [1])
        self.assertEqual(self.numbers(3, 1), [1])
        self.room.leave(3)
        self.refused_all(3)
        self.refused_all(2)

    def test_no_number_comes_twice_behind_a_leaving(self):
        self.room.watch("", 1)
        self.room.watch("", 1)
        self.room.leave(2)
        self.assertEqual(self.room.watch("", 1), 3)
        self.room.leave(1)
        self.room.leave(3)
        self.assertEqual(self.room.watch("", 1), 4)
        for watcher in [1, 2, 3]:
            self.refused_all(watcher)


class Trimming(RoomCase):
    def check(self, many, first):
        """A trim forgets so many, and a second one none."""
        forgotten = self.room.trim()
        self.assertIs(type(forgotten), int)
        self.assertEqual(forgotten, many)
        self.assertEqual(self.room.first(), first)
        self.assertEqual(self.room.trim(), 0)
        self.assertEqual((self.room.first(), self.room.last()), (first, 8))
        self.assertEqual([row[0] for row in changes(self.room)], list(range(first, 9)))

    def test_an_empty_room(self):
        self.room = Room()
        self.assertEqual(self.room.trim(), 0)
        self.assertEqual((self.room.first(), self.room.last()), (1, 0))

    def test_no_watcher_all_are_forgotten(self):
        self.check(8, 9)
        self.assertEqual(self.room.put("a", "x"), 9)
        self.assertEqual(changes(self.room), [(9, 0, "put", "a", "x")])
        self.assertEqual(len(self.room.pairs("")), 6)

    def test_a_watcher_that_has_had_nothing(self):
        self.room.watch("", 1)
        self.check(0, 1)

    def test_a_watcher_has_had_all_ahead_of_its_start(self):
        self.room.watch("", 5)
        self.check(4, 5)

    def test_a_watcher_from_the_next_one_to_come_has_had_all(self):
        self.room.watch("", 9)
        self.check(8, 9)

    def test_what_was_told_but_not_confirmed_is_kept(self):
        self.room.watch("", 3)
        self.numbers(1, 4)
        self.check(2, 3)
        self.room.confirm(1)
        self.check(4, 7)

    def test_what_was_confirmed_stays_had_behind_a_broken_line(self):
        self.room.watch("", 1)
        self.numbers(1, 4)
        self.room.confirm(1)
        self.numbers(1, 2)
        self.room.broken(1)
        self.check(4, 5)
        self.assertEqual(self.numbers(1, 99), [5, 6, 7, 8])

    def test_the_last_one_behind_counts(self):
        for most in [5, 2, 8]:
            watcher = self.room.watch("", 1)
            self.numbers(watcher, most)
            self.room.confirm(watcher)
        self.check(2, 3)
        self.numbers(2, 1)
        self.room.confirm(2)
        self.check(1, 4)
        self.numbers(2, 99)
        self.room.confirm(2)
        self.check(2, 6)

    def test_one_that_has_had_nothing_keeps_all(self):
        self.room.watch("", 8)
        self.room.watch("zz", 1)
        self.room.watch("", 9)
        self.check(0, 1)

    def test_one_that_left_does_not_count(self):
        self.room.watch("", 2)
        self.room.watch("", 6)
        self.room.leave(1)
        self.check(5, 6)
        self.room.leave(2)
        self.check(3, 9)

    def test_a_watcher_goes_on_behind_a_trim(self):
        self.room.watch("a", 1)
        self.assertEqual(self.numbers(1, 2), [1, 3])
        self.room.confirm(1)
        self.check(3, 4)
        self.assertEqual(self.numbers(1, 9), [5, 7])
        self.room.broken(1)
        self.assertEqual(self.numbers(1, 9), [5, 7])
        self.room.confirm(1)
        self.check(5, 9)
        put_all(self.room, ["a", "b"])
        self.assertEqual(self.numbers(1, 9), [9])

    def test_a_trim_touches_neither_keys_nor_leases(self):
        self.room.grant(5)
        self.room.put("held", "v", 1)
        before = self.room.pairs("")
        self.assertEqual(self.room.trim(), 9)
        self.assertEqual(self.room.pairs(""), before)
        self.assertEqual(self.room.holder("held"), 1)
        self.room.wait(5)
        self.assertEqual(changes(self.room), [(10, 5, "cut", "held", "")])


if __name__ == "__main__":
    unittest.main()
