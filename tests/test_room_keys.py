import unittest

from leasewatch.errors import Held, NoKey, NoLease
from leasewatch.room import Room
from looks import changes, refused

LONG_KEY = "k" * 20
LONG_VALUE = "v" * 40
BAD_LEASES = [-1, -2, 4, 5, 10 ** 12, -10 ** 12, 10 ** 5000]


class RoomCase(unittest.TestCase):
    """A room with the leases 1, 2 and 3, of which 3 was dropped."""

    def setUp(self):
        self.room = Room()
        for _ in range(3):
            self.room.grant(100)
        self.room.drop(3)

    def refused(self, kind, call, *args, **more):
        refused(self, kind, self.room, call, *args, **more)

    def stands(self, key, value, holder):
        self.assertEqual((self.room.value(key), self.room.holder(key)), (value, holder))
        self.assertIn((key, value), self.room.pairs(""))

    def gone(self, key):
        self.assertIsNone(self.room.value(key))
        self.assertEqual(self.room.holder(key), 0)
        self.assertNotIn(key, [other for other, _ in self.room.pairs("")])


class Putting(RoomCase):
    def test_it_gives_value_and_holder_and_tells_the_number(self):
        number = self.room.put("a", "x", 1)
        self.assertEqual(number, 1)
        self.assertIs(type(number), int)
        self.stands("a", "x", 1)
        self.assertEqual(changes(self.room), [(1, 0, "put", "a", "x")])

    def test_at_the_tick_that_is_now(self):
        self.room.wait(3)
        self.room.put("a", "x")
        self.room.wait(0)
        self.room.put("b", "y")
        self.room.wait(9)
        self.room.put("a", "z")
        self.assertEqual([row[:2] for row in changes(self.room)], [(1, 3), (2, 3), (3, 12)])

    def test_without_a_lease_the_holder_is_none(self):
        self.room.put("a", "x")
        self.stands("a", "x", 0)
        self.room.put("b", "x", 0)
        self.stands("b", "x", 0)
        self.room.put("c", "x", lease=0)
        self.stands("c", "x", 0)

    def test_the_lease_by_place_and_by_name(self):
        self.room.put("a", "x", 2)
        self.room.put("b", "x", lease=2)
        self.room.put(key="c", value="x", lease=1)
        self.room.put(lease=1, value="y", key="d")
        for key, value, holder in [("a", "x", 2), ("b", "x", 2), ("c", "x", 1), ("d", "y", 1)]:
            self.stands(key, value, holder)

    def test_over_a_key_with_another_value(self):
        self.room.put("a", "x")
        self.assertEqual(self.room.put("a", "y"), 2)
        self.stands("a", "y", 0)
        self.assertEqual(changes(self.room), [(1, 0, "put", "a", "x"), (2, 0, "put", "a", "y")])

    def test_over_a_key_with_the_same_value_is_a_change_too(self):
        self.room.put("a", "x")
        self.assertEqual(self.room.put("a", "x"), 2)
        self.assertEqual(changes(self.room)[1:], [(2, 0, "put", "a", "x")])
        self.room.put("b", "x", 1)
        self.assertEqual(self.room.put("b", "x", 1), 4)
        self.assertEqual(changes(self.room)[3:], [(4, 0, "put", "b", "x")])

    def test_by_the_lease_that_holds_it(self):
        self.room.put("a", "x", 1)
        self.assertEqual(self.room.put("a", "y", 1), 2)
        self.stands("a", "y", 1)

    def test_a_lease_that_puts_a_key_which_none_held_then_holds_it(self):
        self.room.put("a", "x")
        self.room.put("a", "x", 2)
        self.stands("a", "x", 2)
        self.refused(Held, self.room.put, "a", "y")
        self.refused(Held, self.room.put, "a", "y", 1)
        self.room.put("a", "z", 2)
        self.stands("a", "z", 2)

    def test_many_puts_leave_one_key(self):
        for at in range(30):
            self.assertEqual(self.room.put("a", str(at)), at + 1)
        self.assertEqual(self.room.pairs(""), [("a", "29")])

    def test_short_and_long_keys_and_values(self):
        for key in ["k", LONG_KEY, LONG_KEY[1:], "~", " ", "a b"]:
            for value in ["", "v", LONG_VALUE, " ", "~"]:
                self.room.put(key, value, 1)
                self.stands(key, value, 1)
                self.assertEqual(changes(self.room)[-1][2:], ("put", key, value))
        self.assertEqual(len(self.room.pairs("")), 6)

    def test_the_empty_value_stands(self):
        self.room.put("a", "")
        self.assertEqual(self.room.value("a"), "")
        self.assertEqual(self.room.pairs(""), [("a", "")])
        self.room.put("a", "")
        self.room.cut("a")
        self.gone("a")

    def test_keys_that_are_the_beginning_of_others(self):
        for key in ["a", "ab", "abc", "abcd"]:
            self.room.put(key, key.upper())
        self.room.cut("ab")
        self.assertEqual(self.room.pairs(""), [("a", "A"), ("abc", "ABC"), ("abcd", "ABCD")])

    def test_somewhat_longer_ones_raise_no_error(self):
        self.room.put(LONG_KEY + "k", LONG_VALUE + "v")
        self.stands(LONG_KEY + "k", LONG_VALUE + "v", 0)
        self.assertEqual(self.room.pairs(LONG_KEY + "kk"), [])


class Cutting(RoomCase):
    def test_it_takes_the_key_out_and_tells_the_number(self):
        self.room.put("a", "x")
        self.room.wait(4)
        number = self.room.cut("a")
        self.assertEqual(number, 2)
        self.assertIs(type(number), int)
        self.gone("a")
        self.assertEqual(changes(self.room), [(1, 0, "put", "a", "x"), (2, 4, "cut", "a", "")])

    def test_a_held_key_by_its_lease(self):
        self.room.put("a", "x", 1)
        self.room.put("b", "x", 1)
        self.assertEqual(self.room.cut("a", 1), 3)
        self.assertEqual(self.room.cut("b", lease=1), 4)
        self.gone("a")
        self.gone("b")

    def test_a_key_without_a_holder_by_any_lease_or_none(self):
        for at, lease in enumerate([0, 1, 2]):
            self.room.put("a", "x")
            self.assertEqual(self.room.cut("a", lease), 2 * at + 2)
            self.gone("a")

    def test_put_again(self):
        self.room.put("a", "x", 1)
        self.room.cut("a", 1)
        self.assertEqual(self.room.put("a", "y"), 3)
        self.stands("a", "y", 0)
        self.room.cut("a")
        self.room.put("a", "z", 2)
        self.stands("a", "z", 2)

    def test_a_key_that_is_not_there(self):
        self.refused(NoKey, self.room.cut, "a")
        self.refused(NoKey, self.room.cut, "a", 1)
        self.room.put("ab", "x")
        self.room.put("b", "x", 1)
        for key in ["a", "abc", "B", "", LONG_KEY]:
            self.refused(NoKey, self.room.cut, key)
            self.refused(NoKey, self.room.cut, key, 2)
        self.room.cut("ab")
        self.refused(NoKey, self.room.cut, "ab")
        self.room.cut("b", 1)
        self.refused(NoKey, self.room.cut, "b", 1)

    def test_only_that_key_is_cut(self):
        for key in ["a", "b", "c"]:
            self.room.put(key, "x", 1)
        self.room.cut("b", 1)
        self.assertEqual(self.room.pairs(""), [("a", "x"), ("c", "x")])
        self.assertEqual([self.room.holder(key) for key in "abc"], [1, 0, 1])


class HeldKeys(RoomCase):
    def setUp(self):
        super().setUp()
        self.room.put("a", "x", 1)

    def test_another_lease_and_none_are_refused(self):
        for lease in [2, 0]:
            self.refused(Held, self.room.put, "a", "y", lease)
            self.refused(Held, self.room.put, "a", "x", lease)
            self.refused(Held, self.room.cut, "a", lease)
            self.refused(Held, self.room.cut, "a", lease=lease)
        self.refused(Held, self.room.put, "a", "y")
        self.refused(Held, self.room.cut, "a")
        self.stands("a", "x", 1)

    def test_another_key_is_free(self):
        self.room.put("aa", "x", 2)
        self.room.put("A", "x")
        self.stands("aa", "x", 2)

    def test_free_again_behind_a_cut(self):
        self.room.cut("a", 1)
        self.room.put("a", "y", 2)
        self.refused(Held, self.room.put, "a", "z", 1)
        self.refused(Held, self.room.cut, "a", 1)
        self.stands("a", "y", 2)

    def test_free_again_behind_the_end(self):
        self.room.wait(100)
        self.gone("a")
        self.room.put("a", "y")
        self.stands("a", "y", 0)

    def test_free_again_behind_a_drop(self):
        self.room.drop(1)
        self.gone("a")
        self.room.put("a", "y", 2)
        self.stands("a", "y", 2)


class OrderOfRefusals(RoomCase):
    def test_a_lease_that_was_never_given_or_has_ended(self):
        for lease in BAD_LEASES + [3]:
            self.refused(NoLease, self.room.put, "a", "x", lease)
            self.refused(NoLease, self.room.put, "a", "x", lease=lease)
        self.assertEqual(self.room.last(), 0)

    def test_no_lease_ahead_of_no_key(self):
        for lease in BAD_LEASES + [3]:
            self.refused(NoLease, self.room.cut, "a", lease)
            self.refused(NoLease, self.room.cut, "a", lease=lease)

    def test_no_lease_ahead_of_held(self):
        self.room.put("a", "x", 1)
        for lease in BAD_LEASES + [3]:
            self.refused(NoLease, self.room.put, "a", "y", lease)
            self.refused(NoLease, self.room.cut, "a", lease)

    def test_no_lease_where_the_key_is_free(self):
        self.room.put("a", "x")
        for lease in BAD_LEASES + [3]:
            self.refused(NoLease, self.room.put, "a", "y", lease)
            self.refused(NoLease, self.room.cut, "a", lease)

    def test_no_key_ahead_of_held(self):
        # A key that was held and is gone: who held it no longer counts.
        self.room.put("a", "x", 1)
        self.room.cut("a", 1)
        for lease in [0, 1, 2]:
            self.refused(NoKey, self.room.cut, "a", lease)

    def test_none_is_no_bad_lease(self):
        self.room.put("a", "x", 0)
        self.room.cut("a", 0)
        self.refused(NoKey, self.room.cut, "a", 0)


class Asking(RoomCase):
    def test_an_empty_room(self):
        room = Room()
        self.assertIsNone(room.value("a"))
        self.assertEqual(room.holder("a"), 0)
        self.assertEqual(room.pairs(""), [])
        self.assertEqual(room.last(), 0)
        self.assertEqual(room.first(), 1)

    def test_keys_that_are_not_there(self):
        self.room.put("ab", "x", 1)
        for key in ["a", "b", "abc", "AB", ""]:
            self.assertIsNone(self.room.value(key))
            self.assertEqual(self.room.holder(key), 0)

    def test_pairs_in_order_and_by_prefixes(self):
        for key in ["b", "ab", "B", "a", "ba", "abc", " ", "~", "a~", "10", "9"]:
            self.room.put(key, key + key, 1 + len(key) % 2)

        def keys(prefix):
            told = self.room.pairs(prefix)
            self.assertEqual(told, [(key, key + key) for key, _ in told])
            return [key for key, _ in told]

        self.assertEqual(keys(""), [" ", "10", "9", "B", "a", "ab", "abc", "a~", "b", "ba", "~"])
        self.assertEqual(keys("a"), ["a", "ab", "abc", "a~"])
        self.assertEqual(keys("ab"), ["ab", "abc"])
        self.assertEqual(keys("abc"), ["abc"])
        self.assertEqual(keys("abcd"), [])
        self.assertEqual(keys("b"), ["b", "ba"])
        self.assertEqual(keys("bc"), [])
        self.assertEqual(keys("z" * 20), [])

    def test_kinds_of_what_is_told(self):
        self.room.put("a", "x", 1)
        self.assertIs(type(self.room.pairs("")), list)
        self.assertIs(type(self.room.pairs("")[0]), tuple)
        self.assertIs(type(self.room.holder("a")), int)
        self.assertIs(type(self.room.last()), int)
        self.assertIs(type(self.room.first()), int)

    def test_pairs_are_the_askers_own(self):
        self.room.put("a", "x")
        self.room.put("b", "y")
        told = self.room.pairs("")
        told[0] = ("z", "z")
        told.append(("c", "c"))
        self.assertEqual(self.room.pairs(""), [("a", "x"), ("b", "y")])
        self.room.pairs("").clear()
        self.assertEqual(self.room.pairs(""), [("a", "x"), ("b", "y")])
        kept = self.room.pairs("")
        self.room.cut("a")
        self.assertEqual(kept, [("a", "x"), ("b", "y")])

    def test_last_and_first(self):
        self.room.put("a", "x")
        self.room.put("b", "x")
        self.assertEqual((self.room.first(), self.room.last()), (1, 2))
        self.room.trim()
        self.assertEqual((self.room.first(), self.room.last()), (3, 2))
        self.assertEqual(self.room.put("c", "x"), 3)
        self.assertEqual((self.room.first(), self.room.last()), (3, 3))

    def test_asking_is_no_change(self):
        self.room.put("a", "x", 1)
        for _ in range(3):
            self.room.value("a")
            self.room.value("b")
            self.room.holder("a")
            self.room.holder("b")
            self.room.pairs("")
        self.assertEqual(self.room.last(), 1)
        self.refused(NoKey, self.room.cut, "b")


class SideBySide(unittest.TestCase):
    def test_two_rooms_have_nothing_to_do_with_each_other(self):
        one = Room()
        two = Room()
        self.assertEqual(one.grant(5), 1)
        self.assertEqual(one.grant(5), 2)
        one.put("a", "x", 1)
        one.wait(3)
        one.watch("", 1)
        self.assertEqual(two.now, 0)
        self.assertIsNone(two.value("a"))
        self.assertEqual((two.first(), two.last()), (1, 0))
        self.assertEqual(two.grant(50), 1)
        with self.assertRaises(NoLease):
            two.put("a", "y", 2)
        self.assertEqual(two.put("a", "y", 1), 1)
        self.assertEqual(two.watch("", 1), 1)
        one.wait(2)
        self.assertIsNone(one.value("a"))
        self.assertEqual(two.value("a"), "y")
        two.leave(1)
        self.assertEqual(two.trim(), 1)
        self.assertEqual(one.pull(1, 9), [(1, 0, "put", "a", "x"), (2, 5, "cut", "a", "")])
        self.assertEqual(one.first(), 1)


if __name__ == "__main__":
    unittest.main()
