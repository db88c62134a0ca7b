import itertools
import unittest

from leasewatch.ears import Ear, Line, line_now
from leasewatch.errors import NoStart, NoWatch
from leasewatch.room import Room
from looks import MANY, everything, refused, watchers

WELL, ROW_LOST, WORD_LOST, BROKEN = 0, 1, 2, 3


def filled(many):
    """A room with so many changes."""
    room = Room()
    for at in range(many):
        room.put(f"k{at % 3}", str(at))
    return room


class LineCase(unittest.TestCase):
    def heard(self, line):
        return [row[0] for row in line.ear.heard()]

    def all_is_there(self, line, room, prefix, start):
        """Behind a good turn that asks for more than there are, all that is wanted was taken in once."""
        line.turn(MANY, WELL)
        watcher = room.watch(prefix, start)
        self.assertEqual(line.ear.heard(), room.pull(watcher, MANY))
        room.leave(watcher)


class Beginning(LineCase):
    def test_its_fields(self):
        room = filled(4)
        self.assertEqual(room.watch("", 1), 1)
        line = Line(room, "k", 2)
        self.assertEqual(line.watcher, 2)
        self.assertIs(type(line.watcher), int)
        self.assertIs(type(line.ear), Ear)
        self.assertIn("watcher", vars(line))
        self.assertIn("ear", vars(line))
        self.assertEqual(Line(room, "k", 2).watcher, 3)

    def test_watcher_and_ear_have_the_same_start(self):
        room = filled(5)
        for start in range(1, 7):
            line = Line(room, "", start)
            self.assertEqual(line.ear.hear([]), start - 1)
            self.assertEqual([row[0] for row in room.pull(line.watcher, 99)], list(range(start, 6)))

    def test_its_ear_stands_with_the_pairs(self):
        room = filled(1)
        pairs = [("b", "1"), ("a", "2")]
        for line in [Line(room, "", 1, pairs), Line(room, "", 1, tuple(pairs)), Line(room, "", 1, pairs=pairs)]:
            self.assertEqual(line.ear.state(), [("a", "2"), ("b", "1")])
            self.assertEqual(line.ear.heard(), [])
        pairs.clear()
        self.assertEqual(line.ear.state(), [("a", "2"), ("b", "1")])
        self.assertEqual(Line(room, "", 1).ear.state(), [])
        self.assertEqual(Line(room, "", 1, None).ear.state(), [])

    def test_by_name(self):
        room = filled(2)
        line = Line(start=2, prefix="k", pairs=None, room=room)
        self.assertEqual(line.turn(most=5, luck=0), 1)

    def test_a_bad_start_is_refused_and_no_watcher_is_put_in(self):
        room = filled(3)
        for start in [0, 5, -1, -2, 10 ** 12, -10 ** 12]:
            refused(self, NoStart, room, Line, room, "", start)
            refused(self, NoStart, room, Line, room, "", start, [("a", "b")])
        self.assertEqual(room.trim(), 3)
        for start in [1, 2, 3, 5]:
            refused(self, NoStart, room, Line, room, "", start)
        self.assertEqual(Line(room, "", 4).watcher, 1)

    def test_two_lines_have_nothing_to_do_with_each_other(self):
        room = filled(3)
        one = Line(room, "", 1)
        two = Line(room, "", 1)
        one.turn(2, WELL)
        self.assertEqual(self.heard(two), [])
        self.assertEqual(two.turn(9, WELL), 3)
        self.assertEqual(self.heard(one), [1, 2])


class Turning(LineCase):
    # How many of a row of 0, 1, 2, 3 changes the ear takes in by each luck.
    TAKEN = {WELL: [0, 1, 2, 3], ROW_LOST: [0, 0, 0, 0], WORD_LOST: [0, 1, 2, 3], BROKEN: [0, 0, 1, 1]}

    def test_each_luck_with_rows_of_each_length(self):
        for luck, taken in self.TAKEN.items():
            for many in range(4):
                with self.subTest(luck=luck, many=many):
                    room = filled(many)
                    line = Line(room, "", 1)
                    answer = line.turn(9, luck)
                    self.assertEqual(answer, taken[many])
                    self.assertIs(type(answer), int)
                    self.assertEqual(self.heard(line), list(range(1, taken[many] + 1)))

    def test_rows_as_long_as_was_asked_for(self):
        for luck, taken in self.TAKEN.items():
            for most in range(4):
                with self.subTest(luck=luck, most=most):
                    line = Line(filled(7), "", 3)
                    self.assertEqual(line.turn(most, luck), taken[most])
                    self.assertEqual(self.heard(line), list(range(3, 3 + taken[most])))

    def test_longer_rows_break_at_the_lesser_half(self):
        for many in range(4, 12):
            line = Line(filled(many), "", 1)
            self.assertEqual(line.turn(99, BROKEN), many // 2)

    def test_what_the_watcher_is_told_behind_each_luck(self):
        for luck in [WELL, ROW_LOST, WORD_LOST, BROKEN]:
            for many in range(4):
                with self.subTest(luck=luck, many=many):
                    room = filled(5)
                    line = Line(room, "", 1)
                    line.turn(many, luck)
                    going_on, again = watchers(room)[line.watcher]
                    self.assertEqual(going_on, again)
                    first = many + 1 if luck == WELL else 1
                    self.assertEqual([row[0] for row in again], list(range(first, 6)))

    def test_what_a_trim_forgets_behind_each_luck(self):
        for luck in [WELL, ROW_LOST, WORD_LOST, BROKEN]:
            room = filled(5)
            line = Line(room, "", 1)
            line.turn(3, luck)
            self.assertEqual(room.trim(), 3 if luck == WELL else 0)

    def test_behind_a_loss_a_good_turn_makes_up_for_it(self):
        for luck in [ROW_LOST, WORD_LOST, BROKEN]:
            for many in range(4):
                with self.subTest(luck=luck, many=many):
                    room = filled(many)
                    line = Line(room, "", 1)
                    taken = line.turn(9, luck)
                    self.assertEqual(line.turn(9, WELL), many - taken)
                    self.assertEqual(self.heard(line), list(range(1, many + 1)))
                    self.assertEqual(line.ear.state(), room.pairs(""))
                    self.assertEqual(line.turn(9, WELL), 0)

    def test_behind_a_loss_changes_come_on(self):
        for luck in [ROW_LOST, WORD_LOST, BROKEN]:
            room = filled(3)
            line = Line(room, "", 1)
            line.turn(2, luck)
            room.cut("k1")
            room.put("x", "y")
            self.all_is_there(line, room, "", 1)
            self.assertEqual(line.ear.state(), room.pairs(""))

    def test_all_sequences_of_four_turns(self):
        for lucks in itertools.product([WELL, ROW_LOST, WORD_LOST, BROKEN], repeat=4):
            for prefix, start, most in [("", 1, 3), ("k0", 2, 2), ("k", 5, 1)]:
                with self.subTest(lucks=lucks, prefix=prefix, most=most):
                    room = filled(8)
                    line = Line(room, prefix, start)
                    wanted = [row for row in everything(room)["changes"] if row[0] >= start and row[3].startswith(prefix)]
                    for luck in lucks:
                        before = len(line.ear.heard())
                        taken = line.turn(most, luck)
                        heard = line.ear.heard()
                        self.assertEqual(len(heard), before + taken)
                        self.assertEqual(heard, wanted[:len(heard)])
                    self.all_is_there(line, room, prefix, start)
                    self.assertEqual(line.ear.heard(), wanted)

    def test_only_the_wanted_changes_are_taken_in(self):
        room = filled(9)
        line = Line(room, "k1", 3)
        self.assertEqual(line.turn(9, WELL), 2)
        self.assertEqual(self.heard(line), [5, 8])
        self.assertEqual(room.trim(), 9)

    def test_a_turn_that_asks_for_none(self):
        for luck in [WELL, ROW_LOST, WORD_LOST, BROKEN]:
            room = filled(3)
            line = Line(room, "", 1)
            self.assertEqual(line.turn(0, luck), 0)
            self.assertEqual(self.heard(line), [])
            self.assertEqual(room.trim(), 0)

    def test_a_luck_beyond_raises_no_error_and_loses_nothing(self):
        for luck in [-1, 4, 5]:
            room = filled(3)
            line = Line(room, "", 1)
            line.turn(2, luck)
            self.all_is_there(line, room, "", 1)

    def test_pairs_and_then_the_changes(self):
        room = Room()
        room.put("a", "1")
        room.put("b", "1")
        line = Line(room, "", 3, [("a", "1"), ("b", "1")])
        room.put("a", "2")
        room.cut("b")
        room.put("c", "3")
        line.turn(2, BROKEN)
        self.assertEqual(line.ear.state(), [("a", "2"), ("b", "1")])
        line.turn(2, WORD_LOST)
        self.assertEqual(line.ear.state(), [("a", "2")])
        line.turn(3, WELL)
        self.assertEqual(line.ear.state(), room.pairs(""))

    def test_a_line_whose_watcher_left_is_refused(self):
        room = filled(3)
        line = Line(room, "", 1)
        line.turn(1, WELL)
        room.leave(line.watcher)
        other = Line(room, "", 1)
        for luck in [WELL, ROW_LOST, WORD_LOST, BROKEN]:
            for most in [0, 1, 9]:
                refused(self, NoWatch, room, line.turn, most, luck)
        self.assertEqual(self.heard(line), [1])
        self.assertEqual(other.turn(9, WELL), 3)


class FromNow(LineCase):
    def test_an_empty_room(self):
        room = Room()
        line = line_now(room, "")
        self.assertIs(type(line), Line)
        self.assertEqual(line.watcher, 1)
        self.assertEqual(line.ear.state(), [])
        self.assertEqual(line.turn(9, WELL), 0)
        room.put("a", "x")
        self.assertEqual(line.turn(9, WELL), 1)
        self.assertEqual(line.ear.state(), [("a", "x")])

    def test_its_start_is_the_next_one_to_come(self):
        room = filled(4)
        line = line_now(room, "k")
        self.assertEqual(line.ear.hear([]), 4)
        self.assertEqual(line.ear.heard(), [])
        self.assertEqual(room.pull(line.watcher, 9), [])
        room.put("k9", "x")
        self.assertEqual(room.pull(line.watcher, 9), [(5, 0, "put", "k9", "x")])

    def test_it_stands_as_the_room_by_the_prefix(self):
        room = Room()
        for key in ["b", "a", "ab", "ba", "abc", "c"]:
            room.put(key, key.upper())
        room.cut("ba")
        room.put("ab", "")
        for prefix in ["", "a", "ab", "abc", "b", "c", "d", "bc"]:
            with self.subTest(prefix=prefix):
                line = line_now(room, prefix)
                self.assertEqual(line.ear.state(), room.pairs(prefix))
                self.assertEqual(line.turn(9, WELL), 0)
                self.assertEqual(line.ear.state(), room.pairs(prefix))

    def test_and_again_behind_a_good_turn(self):
        for luck in [WELL, ROW_LOST, WORD_LOST, BROKEN]:
            for prefix in ["", "a", "ab", "b", "z"]:
                with self.subTest(luck=luck, prefix=prefix):
                    room = Room()
                    room.grant(5)
                    for key, lease in [("a", 1), ("ab", 0), ("b", 1), ("ac", 0)]:
                        room.put(key, "first", lease)
                    line = line_now(room, prefix)
                    room.put("ab", "second")
                    room.wait(9)
                    room.put("z", "last")
                    room.cut("ac")
                    line.turn(2, luck)
                    line.turn(99, WELL)
                    self.assertEqual(line.ear.state(), room.pairs(prefix))
                    self.all_is_there(line, room, prefix, 5)

    def test_behind_a_trimming_of_all(self):
        room = filled(5)
        room.trim()
        line = line_now(room, "k")
        self.assertEqual(line.ear.state(), room.pairs("k"))
        room.cut("k0")
        self.assertEqual(line.turn(9, WELL), 1)
        self.assertEqual(line.ear.state(), room.pairs("k"))

    def test_it_takes_one_watcher_and_makes_no_change(self):
        room = filled(3)
        line_now(room, "k")
        self.assertEqual(room.last(), 3)
        self.assertEqual(room.watch("", 1), 2)


if __name__ == "__main__":
    unittest.main()
