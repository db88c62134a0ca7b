import unittest

from leasewatch.errors import BadTicks, NoLease
from leasewatch.room import Room
from looks import changes, ends, everything, refused

# More digits than Python is willing to write out.
FAR = 10 ** 5000
BAD_GRANTS = [0, 1000001, -1, -2, 2000000, -1000000, 10 ** 30, -10 ** 30, FAR, -FAR]
BAD_WAITS = [-1, 1000001, -2, 2000000, -1000000, 10 ** 30, -10 ** 30, FAR, -FAR]


class RoomCase(unittest.TestCase):
    def setUp(self):
        self.room = Room()

    def refused(self, kind, call, *args):
        refused(self, kind, self.room, call, *args)

    def refused_everywhere(self, lease):
        """Each way to use the lease is refused with NoLease."""
        self.refused(NoLease, self.room.renew, lease)
        self.refused(NoLease, self.room.drop, lease)
        if lease != 0:
            self.refused(NoLease, self.room.put, "new", "v", lease)
            self.refused(NoLease, self.room.cut, "new", lease)


class Granting(RoomCase):
    def test_a_new_room(self):
        self.assertEqual(self.room.now, 0)
        self.assertIs(type(self.room.now), int)
        self.assertEqual(ends(self.room), {})
        self.assertIn("now", vars(self.room))

    def test_numbers_go_on_from_one(self):
        given = [self.room.grant(ticks) for ticks in range(1, 40)]
        self.assertEqual(given, list(range(1, 40)))
        self.assertTrue(all(type(lease) is int for lease in given))

    def test_the_least_and_the_most_ticks(self):
        self.room.grant(1)
        self.room.grant(1000000)
        self.assertEqual(ends(self.room), {1: 1, 2: 1000000})

    def test_it_ends_its_ticks_behind_now(self):
        self.room.wait(7)
        self.room.grant(5)
        self.room.wait(3)
        self.room.grant(5)
        self.assertEqual(ends(self.room), {1: 12, 2: 15})

    def test_ticks_out_of_the_limits_are_refused_and_take_no_number(self):
        for now in [0, 9, 1000000]:
            self.room.wait(now)
            for ticks in BAD_GRANTS:
                with self.subTest(now=now, bits=ticks.bit_length()):
                    self.refused(BadTicks, self.room.grant, ticks)
        self.assertEqual(self.room.grant(3), 1)
        self.refused(BadTicks, self.room.grant, 0)
        self.assertEqual(self.room.grant(3), 2)

    def test_no_number_comes_twice(self):
        self.room.grant(1)
        self.room.grant(2)
        self.room.drop(2)
        self.assertEqual(self.room.grant(1), 3)
        self.room.wait(5)
        self.assertEqual(self.room.grant(1), 4)
        self.room.drop(4)
        self.assertEqual(self.room.grant(1), 5)

    def test_a_grant_is_no_change(self):
        self.room.grant(5)
        self.room.renew(1)
        self.room.wait(1)
        self.room.drop(1)
        self.assertEqual(self.room.last(), 0)


class Waiting(RoomCase):
    def test_answers_none_and_moves_the_tick(self):
        for ticks, now in [(0, 0), (1, 1), (0, 1), (5, 6), (1000000, 1000006), (1000000, 2000006)]:
            self.assertIsNone(self.room.wait(ticks))
            self.assertEqual(self.room.now, now)

    def test_out_of_the_limits_is_refused_and_changes_nothing(self):
        self.room.grant(3)
        self.room.put("a", "x", 1)
        for ticks in BAD_WAITS:
            with self.subTest(bits=ticks.bit_length()):
                self.refused(BadTicks, self.room.wait, ticks)
        self.assertEqual(self.room.now, 0)
        self.room.wait(2)
        for ticks in BAD_WAITS:
            self.refused(BadTicks, self.room.wait, ticks)
        self.assertEqual(self.room.now, 2)
        self.assertEqual(self.room.value("a"), "x")

    def test_nothing_else_moves_the_tick(self):
        self.room.wait(4)
        self.room.grant(9)
        self.room.put("a", "x", 1)
        self.room.renew(1)
        self.room.put("b", "x")
        self.room.cut("b")
        watcher = self.room.watch("", 1)
        self.room.pull(watcher, 1)
        self.room.confirm(watcher)
        self.room.broken(watcher)
        self.room.trim()
        self.room.leave(watcher)
        self.room.drop(1)
        self.room.value("a")
        self.room.holder("a")
        self.room.pairs("")
        self.assertEqual(self.room.now, 4)

    def test_a_wait_of_none_ends_none(self):
        self.room.grant(1)
        self.room.put("a", "x", 1)
        before = everything(self.room)
        self.room.wait(0)
        self.assertEqual(everything(self.room), before)

    def test_waits_add_up(self):
        self.room.grant(10)
        self.room.put("a", "x", 1)
        for _ in range(9):
            self.room.wait(1)
            self.assertEqual(self.room.value("a"), "x")
        self.room.wait(1)
        self.assertIsNone(self.room.value("a"))
        self.assertEqual(changes(self.room)[-1], (2, 10, "cut", "a", ""))


class Renewing(RoomCase):
    def test_answers_none(self):
        self.room.grant(5)
        self.assertIsNone(self.room.renew(1))

    def test_the_end_is_now_and_the_same_ticks_more(self):
        self.room.grant(10)
        self.room.grant(10)
        self.room.wait(4)
        self.room.renew(1)
        self.assertEqual(ends(self.room), {1: 14, 2: 10})
        self.room.wait(5)
        self.room.renew(1)
        self.room.renew(2)
        self.assertEqual(ends(self.room), {1: 19, 2: 19})
        self.room.wait(0)
        self.room.renew(2)
        self.assertEqual(ends(self.room), {1: 19, 2: 19})

    def test_a_renewed_lease_outlives_its_first_end(self):
        self.room.grant(10)
        self.room.put("a", "x", 1)
        self.room.wait(9)
        self.room.renew(1)
        self.room.wait(9)
        self.assertEqual((self.room.value("a"), self.room.holder("a")), ("x", 1))
        self.assertEqual(self.room.last(), 1)
        self.room.wait(1)
        self.assertEqual(changes(self.room), [(1, 0, "put", "a", "x"), (2, 19, "cut", "a", "")])

    def test_unknown_leases_are_refused(self):
        for lease in [0, 1, 2, -1, -2, 10 ** 12, -10 ** 12, FAR]:
            self.refused(NoLease, self.room.renew, lease)
        self.room.grant(5)
        for lease in [0, 2, -1, -2, 10 ** 12, -10 ** 12, FAR]:
            self.refused(NoLease, self.room.renew, lease)


class Dropping(RoomCase):
    def test_answers_none(self):
        self.room.grant(5)
        self.assertIsNone(self.room.drop(1))
        self.assertEqual(ends(self.room), {})

    def test_its_keys_are_cut_in_their_order_at_the_tick_that_is_now(self):
        self.room.grant(50)
        for key in ["m", "b", "zz", "B", "ba", "a", "z"]:
            self.room.put(key, key + "!", 1)
        self.room.put("c", "stays")
        self.room.wait(7)
        self.room.drop(1)
        self.assertEqual(
            changes(self.room)[8:],
            [(9 + at, 7, "cut", key, "") for at, key in enumerate(["B", "a", "b", "ba", "m", "z", "zz"])],
        )
        self.assertEqual(self.room.pairs(""), [("c", "stays")])

    def test_only_its_own_keys_are_cut(self):
        for lease in [1, 2, 3]:
            self.room.grant(9)
            self.room.put(f"k{lease}", "v", lease)
        self.room.drop(2)
        self.assertEqual(self.room.pairs(""), [("k1", "v"), ("k3", "v")])
        self.assertEqual(ends(self.room), {1: 9, 3: 9})
        self.assertEqual(changes(self.room)[3:], [(4, 0, "cut", "k2", "")])

    def test_dropped_at_once(self):
        self.room.grant(9)
        self.room.put("a", "x", 1)
        self.room.drop(1)
        self.assertEqual(changes(self.room), [(1, 0, "put", "a", "x"), (2, 0, "cut", "a", "")])

    def test_it_does_not_end_once_more(self):
        self.room.grant(5)
        self.room.put("a", "x", 1)
        self.room.wait(2)
        self.room.drop(1)
        self.room.put("a", "y")
        self.room.wait(100)
        self.assertEqual(self.room.value("a"), "y")
        self.assertEqual(self.room.last(), 3)

    def test_without_keys_it_makes_no_change(self):
        self.room.grant(5)
        self.room.put("a", "x")
        self.room.drop(1)
        self.assertEqual(self.room.last(), 1)

    def test_unknown_leases_are_refused(self):
        for lease in [0, 1, -1, -2, 10 ** 12, -10 ** 12, FAR]:
            self.refused(NoLease, self.room.drop, lease)
        self.room.put("a", "held by none")
        self.refused(NoLease, self.room.drop, 0)
        self.assertEqual(self.room.value("a"), "held by none")

    def test_a_dropped_lease_is_refused(self):
        self.room.grant(5)
        self.room.grant(5)
        self.room.drop(1)
        self.refused_everywhere(1)
        self.room.wait(1)
        self.room.grant(5)
        self.refused_everywhere(1)
        self.assertEqual(ends(self.room), {2: 5, 3: 6})


class Ending(RoomCase):
    def test_each_key_is_cut_in_the_order_of_the_ends_and_of_the_keys(self):
        for ticks in [30, 10, 20, 10]:
            self.room.grant(ticks)
        for key, lease in [("q", 1), ("c", 3), ("z", 2), ("a", 1), ("y", 4), ("d", 2), ("b", 4), ("a!", 3), ("m", 2)]:
            self.room.put(key, "v", lease)
        self.room.put("free", "v")
        self.room.wait(1000)
        self.assertEqual(
            changes(self.room)[10:],
            [
                (11, 10, "cut", "d", ""),
                (12, 10, "cut", "m", ""),
                (13, 10, "cut", "z", ""),
                (14, 10, "cut", "b", ""),
                (15, 10, "cut", "y", ""),
                (16, 20, "cut", "a!", ""),
                (17, 20, "cut", "c", ""),
                (18, 30, "cut", "a", ""),
                (19, 30, "cut", "q", ""),
            ],
        )
        self.assertEqual(self.room.now, 1000)
        self.assertEqual(self.room.last(), 19)
        self.assertEqual(self.room.pairs(""), [("free", "v")])

    def test_of_the_same_end_the_lesser_number_first_however_it_came_to_it(self):
        for ticks in [8, 10, 5, 10]:
            self.room.grant(ticks)
        self.room.wait(2)
        self.room.renew(1)
        self.room.wait(3 - 1)
        self.room.renew(3)
        self.room.renew(3)
        self.assertEqual(ends(self.room), {1: 10, 2: 10, 3: 9, 4: 10})
        for key, lease in [("a", 4), ("b", 2), ("c", 1), ("d", 3)]:
            self.room.put(key, "v", lease)
        self.room.wait(6)
        self.assertEqual(
            [row[1:4] for row in changes(self.room)[4:]],
            [(9, "cut", "d"), (10, "cut", "c"), (10, "cut", "b"), (10, "cut", "a")],
        )

    def test_ends_are_ordered_as_numbers(self):
        for ticks in [100, 9, 20]:
            self.room.grant(ticks)
            self.room.put(str(ticks), "v", self.room.grant(ticks))
        self.room.wait(200)
        self.assertEqual([row[1] for row in changes(self.room)[3:]], [9, 20, 100])

    def test_leases_are_ordered_as_numbers(self):
        for lease in range(1, 13):
            self.room.grant(5)
            self.room.put(chr(ord("z") - lease), "v", lease)
        self.room.wait(5)
        self.assertEqual(
            [row[3] for row in changes(self.room)[12:]],
            [chr(ord("z") - lease) for lease in range(1, 13)],
        )

    def test_keys_are_ordered_as_texts(self):
        keys = ["b", "10", "9", "a", "Z", "aa", "a b", "~", " ", "a!", "-"]
        self.room.grant(5)
        for key in keys:
            self.room.put(key, "v", 1)
        self.room.wait(5)
        told = [row[3] for row in changes(self.room)[len(keys):]]
        self.assertEqual(told, [" ", "-", "10", "9", "Z", "a", "a b", "a!", "aa", "b", "~"])

    def test_just_at_the_tick_and_a_tick_behind(self):
        self.room.grant(10)
        self.room.grant(11)
        self.room.put("a", "x", 1)
        self.room.put("b", "y", 2)
        self.room.wait(9)
        self.assertEqual(self.room.last(), 2)
        self.room.wait(1)
        self.assertEqual(changes(self.room)[2:], [(3, 10, "cut", "a", "")])
        self.assertEqual((self.room.value("b"), self.room.holder("b")), ("y", 2))
        self.refused_everywhere(1)
        self.assertIsNone(self.room.renew(2))

    def test_the_shortest_and_the_longest_lease(self):
        self.room.grant(1)
        self.room.grant(1000000)
        self.room.put("a", "x", 1)
        self.room.put("b", "x", 2)
        self.room.wait(1000000)
        self.assertEqual(changes(self.room)[2:], [(3, 1, "cut", "a", ""), (4, 1000000, "cut", "b", "")])

    def test_a_lease_that_holds_no_key(self):
        self.room.grant(5)
        self.room.put("a", "x")
        self.room.wait(6)
        self.assertEqual(self.room.last(), 1)
        self.refused_everywhere(1)

    def test_keys_that_were_cut_before_the_end_are_not_cut_again(self):
        self.room.grant(5)
        self.room.put("a", "x", 1)
        self.room.put("b", "x", 1)
        self.room.cut("a", 1)
        self.room.wait(5)
        self.assertEqual(
            changes(self.room)[2:],
            [(3, 0, "cut", "a", ""), (4, 5, "cut", "b", "")],
        )

    def test_keys_that_another_lease_or_none_took_over_stay(self):
        self.room.grant(5)
        self.room.grant(50)
        for key in ["a", "b", "c"]:
            self.room.put(key, "x", 1)
        self.room.cut("a", 1)
        self.room.cut("b", 1)
        self.room.put("a", "by two", 2)
        self.room.put("b", "by none")
        self.room.wait(5)
        self.assertEqual(self.room.pairs(""), [("a", "by two"), ("b", "by none")])
        self.assertEqual([self.room.holder(key) for key in "abc"], [2, 0, 0])
        self.assertEqual(changes(self.room)[7:], [(8, 5, "cut", "c", "")])
        self.room.wait(45)
        self.assertEqual(self.room.pairs(""), [("b", "by none")])
        self.assertEqual(changes(self.room)[8:], [(9, 50, "cut", "a", "")])

    def test_a_key_that_the_lease_took_over_from_none_is_cut(self):
        self.room.put("a", "x")
        self.room.grant(5)
        self.room.put("a", "x", 1)
        self.room.wait(5)
        self.assertEqual(self.room.pairs(""), [])

    def test_a_lease_that_has_ended_is_refused(self):
        self.room.grant(5)
        self.room.grant(9)
        self.room.put("a", "x", 1)
        self.room.wait(6)
        self.refused_everywhere(1)
        self.room.wait(10)
        self.refused_everywhere(1)
        self.refused_everywhere(2)
        self.assertEqual(self.room.grant(1), 3)
        self.refused_everywhere(1)

    def test_ends_in_several_waits(self):
        for ticks in [3, 6, 9]:
            lease = self.room.grant(ticks)
            self.room.put(f"k{ticks}", "v", lease)
        self.room.wait(4)
        self.assertEqual(self.room.last(), 4)
        self.room.wait(4)
        self.assertEqual(self.room.last(), 5)
        self.room.wait(4)
        self.assertEqual([row[1] for row in changes(self.room)[3:]], [3, 6, 9])

    def test_changes_go_on_at_the_tick_that_was_come_to(self):
        self.room.grant(5)
        self.room.put("a", "x", 1)
        self.room.wait(8)
        self.room.put("b", "y")
        self.assertEqual(changes(self.room)[1:], [(2, 5, "cut", "a", ""), (3, 8, "put", "b", "y")])


if __name__ == "__main__":
    unittest.main()
