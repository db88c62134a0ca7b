"""Longer histories of all of it, held against the plain words of the document."""

import random
import time
import unittest

from leasewatch.ears import Line, line_now
from leasewatch.errors import LeaseError, NoLease, NoWatch
from leasewatch.room import Room
from looks import MANY, changes
from plain import PlainRoom

KEYS = ["a", "b", "ab", "abc", "B", "b a", "~", "a" * 20]
PREFIXES = ["", "a", "ab", "b", "B", "c", "a" * 20]


def answer(call, *args):
    """What a call tells, or the class of the refusal."""
    try:
        return call(*args)
    except LeaseError as refusal:
        return type(refusal)


def standing_of(pairs, rows):
    """What stands when changes are made to pairs."""
    stands = dict(pairs)
    for _, _, word, key, value in rows:
        if word == "put":
            stands[key] = value
        else:
            stands.pop(key, None)
    return sorted(stands.items())


class History:
    """A room and its plain copy, to which the same things happen."""

    def __init__(self, case, seed):
        self.case = case
        self.chance = random.Random(seed)
        self.room = Room()
        self.plain = PlainRoom()
        self.lines = []

    def both(self, name, *args):
        told = answer(getattr(self.room, name), *args)
        plain = answer(getattr(self.plain, name), *args)
        self.case.assertEqual(told, plain, (name, args))
        self.case.assertIs(type(told), type(plain), (name, args))
        return told

    def any_lease(self):
        """None, most often a lease that stands, and now and then any number about."""
        standing = [lease for lease, held in enumerate(self.plain.leases, 1) if held[2]]
        stray = self.chance.randint(-1, len(self.plain.leases) + 1)
        return self.chance.choice([0, 0, stray] + standing[-6:])

    def any_watcher(self):
        """Most often a watcher that is there, and now and then any number about."""
        here = [watcher for watcher, held in enumerate(self.plain.watchers, 1) if held is not None]
        stray = self.chance.randint(-1, len(self.plain.watchers) + 1)
        return self.chance.choice([stray] + here[-6:])

    def step(self):
        chance = self.chance
        key = chance.choice(KEYS)
        prefix = chance.choice(PREFIXES)
        doing = chance.randrange(14)
        if doing == 0:
            self.both("grant", chance.choice([0, 1, 2, 5, 5, 9, 30, 1000000, 1000001]))
        elif doing == 1:
            self.both("renew", self.any_lease())
        elif doing == 2 and chance.randrange(3) == 0:
            self.both("drop", self.any_lease())
        elif doing == 3:
            self.both("wait", chance.choice([-1, 0, 1, 1, 2, 3, 7, 20, 1000001]))
        elif doing in (4, 5, 6):
            self.both("put", key, chance.choice(["", "x", "y", "z" * 40]), self.any_lease())
        elif doing == 7:
            self.both("cut", key, self.any_lease())
        elif doing == 8:
            self.both("watch", prefix, chance.randint(self.plain.first() - 2, self.plain.last() + 2))
        elif doing == 9:
            # A line's own watcher is pulled by its turns alone.
            watcher = self.any_watcher()
            if watcher not in [line.watcher for line, *_ in self.lines]:
                self.both("pull", watcher, chance.randrange(6))
                if chance.randrange(3):
                    self.both(chance.choice(["confirm", "broken"]), watcher)
        elif doing == 10:
            if chance.randrange(4):
                self.both("trim")
            else:
                self.both("leave", self.any_watcher())
        elif doing == 11 and len(self.lines) < 6:
            self.begin_line(prefix)
        elif self.lines:
            self.turn(*chance.choice(self.lines))

    def begin_line(self, prefix):
        if self.chance.randrange(2):
            pairs = self.plain.pairs(prefix)
            start = self.plain.last() + 1
            line = line_now(self.room, prefix)
        else:
            pairs = None
            start = self.chance.randint(self.plain.first(), self.plain.last() + 1)
            line = Line(self.room, prefix, start)
        self.case.assertEqual(line.watcher, self.plain.watch(prefix, start))
        self.case.assertEqual(line.ear.state(), pairs or [])
        self.lines.append((line, prefix, pairs))

    def turn(self, line, prefix, pairs):
        """A turn of a line; its pairs are None if it began with less than what stood then."""
        most = self.chance.choice([0, 1, 2, 3, 4, 5, MANY])
        luck = self.chance.randrange(4)
        before = line.ear.heard()
        row = answer(self.plain.pull, line.watcher, most)
        if row is NoWatch:
            self.case.assertIs(answer(line.turn, most, luck), NoWatch)
            self.case.assertEqual(line.ear.heard(), before)
            self.lines = [held for held in self.lines if held[0] is not line]
            return
        if luck == 0:
            self.plain.confirm(line.watcher)
        else:
            self.plain.broken(line.watcher)
        comes = [row, [], row, row[:len(row) // 2]][luck]
        new = [change for change in comes if change not in before]
        self.case.assertEqual(line.turn(most, luck), len(new))
        heard = line.ear.heard()
        self.case.assertEqual(heard, before + new)
        wanted = self.plain.wants(line.watcher)
        self.case.assertEqual(heard, wanted[:len(heard)])
        if luck == 0 and len(row) < most:
            self.case.assertEqual(heard, wanted)
            if pairs is not None:
                self.case.assertEqual(line.ear.state(), self.room.pairs(prefix))
        self.case.assertEqual(line.ear.state(), standing_of(pairs or [], heard))

    def look(self):
        self.case.assertEqual(self.room.now, self.plain.now)
        self.case.assertEqual((self.room.first(), self.room.last()), (self.plain.first(), self.plain.last()))
        for key in KEYS:
            self.case.assertEqual(self.room.value(key), self.plain.value(key))
            self.case.assertEqual(self.room.holder(key), self.plain.holder(key))
        for prefix in PREFIXES:
            self.case.assertEqual(self.room.pairs(prefix), self.plain.pairs(prefix))


class Histories(unittest.TestCase):
    def test_all_of_it_in_one_room(self):
        for seed in range(120):
            history = History(self, seed)
            with self.subTest(seed=seed):
                for _ in range(150):
                    history.step()
                    history.look()
                self.assertEqual(changes(history.room), history.plain.history[history.plain.forgotten:])

    def test_two_rooms_side_by_side(self):
        for seed in range(10):
            one = History(self, seed)
            two = History(self, seed + 1000)
            for at in range(200):
                (one, two, two)[at % 3].step()
                one.look()
                two.look()

    def test_the_same_calls_give_the_same_answers(self):
        for seed in range(5):
            told = []
            for _ in range(2):
                history = History(self, seed)
                for _ in range(150):
                    history.step()
                told.append((changes(history.room), [line.ear.heard() for line, *_ in history.lines]))
            self.assertEqual(told[0], told[1])


class Quickness(unittest.TestCase):
    def setUp(self):
        self.began = time.monotonic()

    def tearDown(self):
        self.assertLess(time.monotonic() - self.began, 5)

    def test_one_long_wait(self):
        room = Room()
        room.grant(1000000)
        room.put("a", "x", 1)
        room.wait(1000000)
        self.assertEqual(changes(room), [(1, 0, "put", "a", "x"), (2, 1000000, "cut", "a", "")])

    def test_many_long_waits_and_ticks_far_on(self):
        room = Room()
        for _ in range(1000000):
            room.wait(1000000)
        self.assertEqual(room.now, 10 ** 12)
        lease = room.grant(1000000)
        room.put("a", "x", lease)
        room.wait(999999)
        room.renew(lease)
        room.wait(1)
        self.assertEqual(room.value("a"), "x")
        room.wait(1000000)
        self.assertEqual(changes(room), [(1, 10 ** 12, "put", "a", "x"), (2, 10 ** 12 + 1999999, "cut", "a", "")])

    def test_some_hundred_leases_and_keys(self):
        room = Room()
        for lease in range(1, 501):
            self.assertEqual(room.grant(1000000 - 1000 * (lease % 50)), lease)
            for part in ["b", "a", "c"]:
                room.put(f"{part}{lease}", "v", lease)
        line = line_now(room, "b")
        room.wait(1000000)
        self.assertEqual(room.pairs(""), [])
        self.assertEqual(room.last(), 3000)
        ticks = [row[1] for row in changes(room)[1500:]]
        self.assertEqual(ticks, sorted(ticks))
        self.assertEqual((ticks[0], ticks[-1]), (951000, 1000000))
        self.assertEqual(line.turn(MANY, 0), 500)
        self.assertEqual(line.ear.state(), [])
        with self.assertRaises(NoLease):
            room.renew(500)

    def test_some_thousand_changes_in_small_pulls(self):
        room = Room()
        line = line_now(room, "")
        for at in range(5000):
            room.put(f"k{at % 100}", str(at))
            if at % 2:
                line.turn(2, at // 2 % 4)
            if at % 100 == 99:
                room.trim()
        line.turn(MANY, 0)
        self.assertEqual([row[0] for row in line.ear.heard()], list(range(1, 5001)))
        self.assertEqual(line.ear.state(), room.pairs(""))
        self.assertEqual(room.first() + room.trim(), 5001)


if __name__ == "__main__":
    unittest.main()
