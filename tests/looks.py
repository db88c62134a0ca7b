"""What a test sees of a room: all that its methods could tell from here on.

Each question that would change the room is put to a copy of it.
"""

import copy

from leasewatch.errors import LeaseError, NoLease, NoWatch

MANY = 10 ** 9


def changes(room):
    """All changes that are kept."""
    room = copy.deepcopy(room)
    return room.pull(room.watch("", room.first()), MANY)


def ends(room):
    """A dict of the leases that stand, and the tick at which each of them ends."""
    room = copy.deepcopy(room)
    seen = room.last()
    for lease in range(1, copy.deepcopy(room).grant(1)):
        try:
            room.put(f"<{lease}>", "", lease)
        except NoLease:
            pass
    room.wait(1000000)
    return {
        int(key[1:-1]): tick
        for number, tick, word, key, _ in changes(room)
        if number > seen and word == "cut" and key[0] == "<"
    }


def watchers(room):
    """A dict of the watchers: the changes that each is told next, and those if its line broke."""
    found = {}
    for watcher in range(1, copy.deepcopy(room).watch("", room.first())):
        try:
            going_on = copy.deepcopy(room).pull(watcher, MANY)
            again = copy.deepcopy(room)
            again.broken(watcher)
            found[watcher] = (going_on, again.pull(watcher, MANY))
        except NoWatch:
            pass
    return found


def everything(room):
    """All that can be seen of a room."""
    stands = room.pairs("")
    return {
        "now": room.now,
        "first and last": (room.first(), room.last()),
        "pairs": stands,
        "values": [room.value(key) for key, _ in stands],
        "holders": [room.holder(key) for key, _ in stands],
        "changes": changes(room),
        "ends": ends(room),
        "watchers": watchers(room),
        "next lease": copy.deepcopy(room).grant(1),
        "next watcher": copy.deepcopy(room).watch("", room.first()),
        "trim": copy.deepcopy(room).trim(),
    }


def refused(case, kind, room, call, *args, **more):
    """Check that a call is refused with just that kind, and that it changes nothing in the room."""
    before = everything(room)
    with case.assertRaises(LeaseError) as caught:
        call(*args, **more)
    case.assertIs(type(caught.exception), kind)
    case.assertEqual(everything(room), before)
