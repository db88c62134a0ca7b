import time
import unittest

from leasewatch.errors import BadTicks, NoLease
from leasewatch.leases import MOST_TICKS, Leases

FOREVER = 10 ** 18
# The last one has more digits than Python is willing to write out.
BAD_TICKS = [0, 1000001, -1, -2, -1000000, 2000000, 10 ** 30, -10 ** 9, -10 ** 30, 10 ** 5000, -10 ** 5000]


class LeasesCase(unittest.TestCase):
    def setUp(self):
        self.leases = Leases()

    def standing(self):
        return self.leases.due(FOREVER)

    def refused(self, kind, call, *args):
        """The call is refused with just that kind, and changes nothing."""
        before = self.standing()
        with self.assertRaises(ValueError) as caught:
            call(*args)
        self.assertIs(type(caught.exception), kind)
        self.assertEqual(self.standing(), before)


class Granting(LeasesCase):
    def test_most_ticks(self):
        self.assertEqual(MOST_TICKS, 1000000)
        self.assertIs(type(MOST_TICKS), int)

    def test_the_least_and_the_most_ticks_are_given(self):
        self.assertEqual(self.leases.grant(0, 1), 1)
        self.assertEqual(self.leases.grant(0, 1000000), 2)
        self.assertEqual(self.standing(), [(1, 1), (1000000, 2)])

    def test_ticks_out_of_the_limits_are_refused(self):
        self.leases.grant(4, 7)
        for ticks in BAD_TICKS:
            with self.subTest(digits=ticks.bit_length(), below=ticks < 0):
                self.refused(BadTicks, self.leases.grant, 5, ticks)

    def test_ticks_are_refused_at_any_tick(self):
        for now in [0, 1, 1000000, 10 ** 12]:
            for ticks in BAD_TICKS:
                with self.subTest(now=now, digits=ticks.bit_length(), below=ticks < 0):
                    self.refused(BadTicks, self.leases.grant, now, ticks)

    def test_a_refused_grant_takes_no_number(self):
        for ticks in BAD_TICKS:
            self.refused(BadTicks, self.leases.grant, 0, ticks)
        self.assertEqual(self.leases.grant(0, 5), 1)
        for ticks in BAD_TICKS:
            self.refused(BadTicks, self.leases.grant, 0, ticks)
        self.assertEqual(self.leases.grant(0, 5), 2)

    def test_numbers_go_on_from_one(self):
        given = [self.leases.grant(at, 3) for at in range(50)]
        self.assertEqual(given, list(range(1, 51)))
        self.assertTrue(all(type(lease) is int for lease in given))

    def test_no_number_comes_twice_where_leases_were_dropped(self):
        self.assertEqual([self.leases.grant(0, 5) for _ in range(3)], [1, 2, 3])
        self.leases.drop(3)
        self.assertEqual(self.leases.grant(0, 5), 4)
        self.leases.drop(1)
        self.leases.drop(2)
        self.leases.drop(4)
        self.assertEqual(self.standing(), [])
        self.assertEqual(self.leases.grant(9, 5), 5)
        self.leases.drop(5)
        self.assertEqual(self.leases.grant(9, 5), 6)

    def test_a_lease_ends_its_ticks_behind_the_tick_of_the_grant(self):
        self.leases.grant(0, 10)
        self.leases.grant(7, 10)
        self.leases.grant(100, 1)
        self.assertEqual(self.standing(), [(10, 1), (17, 2), (101, 3)])


class Renewing(LeasesCase):
    def test_renew_answers_none(self):
        lease = self.leases.grant(0, 4)
        self.assertIsNone(self.leases.renew(2, lease))

    def test_the_end_moves_to_the_tick_of_renewing_and_the_same_ticks_more(self):
        lease = self.leases.grant(3, 10)
        self.assertEqual(self.standing(), [(13, lease)])
        self.leases.renew(8, lease)
        self.assertEqual(self.standing(), [(18, lease)])

    def test_however_often_it_is_renewed(self):
        lease = self.leases.grant(0, 10)
        for now in [0, 1, 1, 5, 14, 14, 23, 1000]:
            self.leases.renew(now, lease)
            self.assertEqual(self.standing(), [(now + 10, lease)])

    def test_each_lease_keeps_its_own_ticks(self):
        self.leases.grant(0, 10)
        self.leases.grant(0, 1000000)
        self.leases.grant(0, 1)
        for lease in [1, 2, 3]:
            self.leases.renew(50, lease)
        self.assertEqual(self.standing(), [(51, 3), (60, 1), (1000050, 2)])

    def test_only_the_renewed_lease_moves(self):
        self.leases.grant(0, 5)
        self.leases.grant(0, 6)
        self.leases.renew(4, 1)
        self.assertEqual(self.standing(), [(6, 2), (9, 1)])

    def test_no_number_is_taken_by_renewing(self):
        self.leases.grant(0, 5)
        self.leases.renew(1, 1)
        self.assertEqual(self.leases.grant(1, 5), 2)


class Dropping(LeasesCase):
    def test_drop_answers_none(self):
        lease = self.leases.grant(0, 4)
        self.assertIsNone(self.leases.drop(lease))

    def test_a_dropped_lease_is_gone_and_the_others_stand(self):
        for ticks in [5, 6, 7]:
            self.leases.grant(0, ticks)
        self.leases.drop(2)
        self.assertEqual(self.standing(), [(5, 1), (7, 3)])
        self.leases.renew(1, 1)
        self.leases.renew(1, 3)
        self.assertEqual(self.standing(), [(6, 1), (8, 3)])


class Unknown(LeasesCase):
    def refused_both(self, lease):
        with self.subTest(lease=lease):
            self.refused(NoLease, self.leases.renew, 2, lease)
            self.refused(NoLease, self.leases.drop, lease)

    def test_none_was_given(self):
        for lease in [0, 1, 2, -1, 10 ** 12, -10 ** 12, 10 ** 5000]:
            self.refused_both(lease)

    def test_never_given(self):
        self.leases.grant(0, 4)
        self.leases.grant(0, 5)
        for lease in [0, -1, -2, 3, 4, 10 ** 12, -10 ** 12, 10 ** 5000]:
            self.refused_both(lease)

    def test_the_number_of_a_refused_grant_was_never_given(self):
        self.refused(BadTicks, self.leases.grant, 0, 0)
        self.refused_both(1)

    def test_dropped(self):
        for _ in range(3):
            self.leases.grant(0, 4)
        for lease in [2, 3, 1]:
            self.leases.drop(lease)
            self.refused_both(lease)
        self.assertEqual(self.standing(), [])

    def test_dropped_stays_refused_when_others_are_given(self):
        self.leases.grant(0, 4)
        self.leases.drop(1)
        self.leases.grant(0, 4)
        self.refused_both(1)
        self.assertEqual(self.standing(), [(4, 2)])

    def test_refusing_the_unknown_by_itself(self):
        self.leases.grant(0, 4)
        self.leases.grant(0, 4)
        self.leases.drop(2)
        for lease in [0, -1, 2, 3, 10 ** 12]:
            self.refused(NoLease, self.leases.refuse_unknown, lease)
        self.assertIsNone(self.leases.refuse_unknown(1))
        self.assertEqual(self.standing(), [(4, 1)])

    def test_a_refusal_takes_no_number_and_leaves_the_ticks(self):
        self.leases.grant(0, 4)
        for lease in [0, -1, 2, 10 ** 12]:
            self.refused_both(lease)
        self.assertEqual(self.leases.grant(0, 9), 2)
        self.leases.renew(10, 1)
        self.assertEqual(self.standing(), [(9, 2), (14, 1)])


class Due(LeasesCase):
    def test_none_given(self):
        for until in [0, 1, 10 ** 12]:
            self.assertEqual(self.leases.due(until), [])

    def test_is_a_list_of_pairs(self):
        self.leases.grant(0, 4)
        told = self.leases.due(4)
        self.assertIs(type(told), list)
        self.assertIs(type(told[0]), tuple)
        self.assertEqual(told, [(4, 1)])

    def test_different_ends_the_earlier_one_first(self):
        for ticks in [30, 10, 20, 1000000, 1]:
            self.leases.grant(0, ticks)
        self.assertEqual(self.standing(), [(1, 5), (10, 2), (20, 3), (30, 1), (1000000, 4)])

    def test_ends_are_ordered_as_numbers(self):
        for ticks in [100, 9, 20]:
            self.leases.grant(0, ticks)
        self.assertEqual(self.standing(), [(9, 2), (20, 3), (100, 1)])

    def test_the_same_end_the_lesser_number_first(self):
        for now, ticks in [(0, 20), (5, 15), (10, 10), (19, 1), (0, 20)]:
            self.leases.grant(now, ticks)
        self.assertEqual(self.leases.due(20), [(20, 1), (20, 2), (20, 3), (20, 4), (20, 5)])

    def test_the_same_end_by_renewing_the_lesser_number_first(self):
        for _ in range(12):
            self.leases.grant(0, 10)
        for lease in [12, 3, 7, 1, 10, 2]:
            self.leases.renew(5, lease)
        self.assertEqual(
            self.standing(),
            [(10, lease) for lease in [4, 5, 6, 8, 9, 11]] + [(15, lease) for lease in [1, 2, 3, 7, 10, 12]],
        )

    def test_just_at_the_tick_and_behind_it(self):
        self.leases.grant(0, 10)
        self.leases.grant(0, 11)
        self.leases.grant(0, 9)
        self.assertEqual(self.leases.due(0), [])
        self.assertEqual(self.leases.due(8), [])
        self.assertEqual(self.leases.due(9), [(9, 3)])
        self.assertEqual(self.leases.due(10), [(9, 3), (10, 1)])
        self.assertEqual(self.leases.due(11), [(9, 3), (10, 1), (11, 2)])

    def test_a_renewed_lease_stands_at_its_new_place(self):
        for ticks in [5, 10, 15]:
            self.leases.grant(0, ticks)
        self.leases.renew(7, 1)
        self.assertEqual(self.standing(), [(10, 2), (12, 1), (15, 3)])
        self.assertEqual(self.leases.due(11), [(10, 2)])
        self.leases.renew(12, 1)
        self.assertEqual(self.standing(), [(10, 2), (15, 3), (17, 1)])

    def test_a_dropped_lease_is_not_told(self):
        for _ in range(3):
            self.leases.grant(0, 5)
        self.assertEqual(self.leases.due(5), [(5, 1), (5, 2), (5, 3)])
        self.leases.drop(2)
        self.assertEqual(self.leases.due(5), [(5, 1), (5, 3)])
        self.assertEqual(self.leases.due(4), [])

    def test_a_lease_renewed_and_then_dropped_is_not_told(self):
        self.leases.grant(0, 5)
        self.leases.renew(2, 1)
        self.leases.drop(1)
        for until in [5, 7, FOREVER]:
            self.assertEqual(self.leases.due(until), [])

    def test_the_list_is_the_askers_own(self):
        self.leases.grant(0, 5)
        self.leases.grant(0, 6)
        told = self.leases.due(6)
        told.append((1, 99))
        told[0] = (0, 0)
        self.assertEqual(self.leases.due(6), [(5, 1), (6, 2)])
        self.leases.due(6).clear()
        self.assertEqual(self.leases.due(6), [(5, 1), (6, 2)])
        empty = self.leases.due(0)
        empty.append((0, 1))
        self.assertEqual(self.leases.due(0), [])

    def test_a_told_list_does_not_change_later(self):
        self.leases.grant(0, 5)
        told = self.leases.due(5)
        self.leases.renew(4, 1)
        self.leases.grant(0, 1)
        self.leases.drop(1)
        self.assertEqual(told, [(5, 1)])

    def test_it_ends_none_of_them(self):
        self.leases.grant(0, 5)
        self.leases.grant(0, 6)
        for until in [6, 1000, 6]:
            self.assertEqual(self.leases.due(until), [(5, 1), (6, 2)])
        self.assertIsNone(self.leases.renew(1000, 1))
        self.assertEqual(self.leases.due(1005), [(6, 2), (1005, 1)])
        self.assertIsNone(self.leases.drop(2))
        self.assertEqual(self.leases.due(1005), [(1005, 1)])
        self.assertEqual(self.leases.grant(1000, 1), 3)


class SideBySide(unittest.TestCase):
    def test_two_have_nothing_to_do_with_each_other(self):
        one = Leases()
        two = Leases()
        self.assertEqual(one.grant(0, 5), 1)
        self.assertEqual(one.grant(0, 6), 2)
        self.assertEqual(two.due(FOREVER), [])
        self.assertEqual(two.grant(3, 50), 1)
        with self.assertRaises(NoLease):
            two.drop(2)
        one.renew(10, 1)
        one.drop(2)
        self.assertEqual(two.due(FOREVER), [(53, 1)])
        two.drop(1)
        self.assertEqual(one.due(FOREVER), [(15, 1)])
        self.assertEqual(one.grant(0, 1), 3)
        self.assertEqual(two.grant(0, 1), 2)

    def test_the_same_calls_give_the_same_answers(self):
        def answers():
            leases = Leases()
            given = [leases.grant(at, 1 + at * 37 % 91) for at in range(200)]
            for lease in given[::3]:
                leases.renew(150, lease)
            for lease in given[::7]:
                leases.drop(lease)
            return given, leases.due(160), leases.due(FOREVER)

        self.assertEqual(answers(), answers())


class FarOn(unittest.TestCase):
    def test_some_hundred_leases_at_far_ticks_answer_quickly(self):
        began = time.monotonic()
        leases = Leases()
        far = 10 ** 12
        for at in range(600):
            self.assertEqual(leases.grant(far + at, 1000000 - at), at + 1)
        self.assertEqual(leases.due(far + 999999), [])
        self.assertEqual(leases.due(far + 1000000), [(far + 1000000, lease) for lease in range(1, 601)])
        for lease in range(600, 0, -1):
            leases.renew(2 * far, lease)
        self.assertEqual(leases.due(2 * far), [])
        self.assertEqual(
            leases.due(10 * far),
            [(2 * far + 1000001 - lease, lease) for lease in range(600, 0, -1)],
        )
        for lease in range(1, 600):
            leases.drop(lease)
            self.assertEqual(len(leases.due(10 * far)), 600 - lease)
        self.assertEqual(leases.due(10 * far), [(2 * far + 999401, 600)])
        self.assertLess(time.monotonic() - began, 5)


if __name__ == "__main__":
    unittest.main()
