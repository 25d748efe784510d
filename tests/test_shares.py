"""[10] Share, and the general rules [2] and [3] as far as they concern it."""

import unittest

from poolshares.divisions import Division
from poolshares.errors import NoAmounts, NoNumber, NoShare, NoState
from poolshares.shares import Share
from values import not_numbers, not_shares, odd_texts, odd_tuples, odd_values, shares_to, tuples_to

ORDINARY = [(0, 1), (7, 3), (0, 2, 1), (5, 5, 5, 5), (9, 0, 30, 4, 4), (6, 5, 4, 3, 2, 1), (30,) * 6, (0,) * 2]


class TestMaking(unittest.TestCase):
    def test_ordinary_amounts(self):
        for amounts in ORDINARY:
            with self.subTest(amounts):
                self.assertEqual(Share(amounts).amounts, amounts)

    def test_amounts_by_name(self):
        self.assertEqual(Share(amounts=(0, 2, 1)).amounts, (0, 2, 1))

    def test_numbers_of_states(self):
        for many in range(10):
            with self.subTest(many):
                if 2 <= many <= 6:
                    self.assertEqual(len(Share((1,) * many)), many)
                else:
                    with self.assertRaises(NoAmounts):
                        Share((1,) * many)

    def test_least_and_greatest_amount_at_each_place(self):
        for many in range(2, 7):
            for place in range(many):
                for amount in (0, 1, 29, 30):
                    amounts = (3,) * place + (amount,) + (3,) * (many - place - 1)
                    self.assertEqual(Share(amounts).amounts, amounts)
                for amount in (-1, 31, -30, 10 ** 13 - 1, 1 - 10 ** 13):
                    with self.assertRaises(NoAmounts):
                        Share((3,) * place + (amount,) + (3,) * (many - place - 1))

    def test_amounts_that_are_not_integers(self):
        for wrong in not_numbers() + [1.0]:
            for amounts in ((wrong, 1), (1, wrong), (1, 1, wrong), (0, wrong, 2, 3, 4, 5)):
                with self.subTest(repr(wrong)[:60]), self.assertRaises(NoAmounts):
                    Share(amounts)

    def test_bools_are_not_amounts(self):
        for amounts in ((True, 1), (0, False), (True, False), (0, 1, 2, 3, 4, True)):
            with self.subTest(amounts), self.assertRaises(NoAmounts):
                Share(amounts)

    def test_values_that_are_not_tuples(self):
        for wrong in odd_values() + odd_texts() + odd_tuples() + [0, 2, [0, 2, 1], "021", b"ab", {0: 0, 1: 1}]:
            with self.subTest(repr(wrong)[:60]), self.assertRaises(NoAmounts):
                Share(wrong)

    def test_one_argument_is_required(self):
        for arguments in ((), ((0, 1), (0, 1))):
            with self.assertRaises(TypeError):
                Share(*arguments)


class TestReading(unittest.TestCase):
    def test_total(self):
        for amounts, total in (((0, 2, 1), 3), ((0, 0), 0), ((30,) * 6, 180), ((1, 2, 3, 4), 10)):
            self.assertEqual(Share(amounts).total, total)

    def test_amounts_is_a_tuple_of_integers(self):
        amounts = Share((0, 2, 1)).amounts
        self.assertIs(type(amounts), tuple)
        self.assertEqual([type(amount) for amount in amounts], [int] * 3)

    def test_states(self):
        for amounts in ORDINARY:
            share = Share(amounts)
            self.assertEqual([share[state] for state in range(len(amounts))], list(amounts))

    def test_states_that_are_not_there(self):
        for amounts in ORDINARY:
            for state in (-1, -len(amounts), len(amounts), len(amounts) + 1, 10 ** 13 - 1):
                with self.subTest((amounts, state)), self.assertRaises(NoState):
                    Share(amounts)[state]

    def test_states_that_are_not_integers(self):
        for wrong in not_numbers() + [(0, 1), 1.0]:
            with self.subTest(repr(wrong)[:60]), self.assertRaises(NoState):
                Share((0, 2, 1))[wrong]

    def test_smallest_amounts(self):
        self.assertEqual([Share((0, 2, 1))(k) for k in range(4)], [0, 0, 1, 3])
        self.assertEqual([Share((5, 3))(k) for k in range(3)], [0, 3, 8])
        self.assertEqual([Share((6, 30, 6, 0, 2, 9))(k) for k in range(7)], [0, 0, 2, 8, 14, 23, 53])

    def test_smallest_amounts_of_every_small_share(self):
        for amounts in tuples_to(3, 3):
            share = Share(amounts)
            low, middle, high = sorted(amounts)
            self.assertEqual(
                [share(0), share(1), share(2), share(3)], [0, low, low + middle, low + middle + high])

    def test_smallest_amounts_by_name(self):
        self.assertEqual(Share((0, 2, 1))(k=2), 1)

    def test_numbers_that_are_not_there(self):
        for amounts in ORDINARY:
            for k in (-1, len(amounts) + 1, -len(amounts), 10 ** 13 - 1):
                with self.subTest((amounts, k)), self.assertRaises(NoNumber):
                    Share(amounts)(k)

    def test_numbers_that_are_not_integers(self):
        for wrong in not_numbers() + [(0, 1), 1.0]:
            with self.subTest(repr(wrong)[:60]), self.assertRaises(NoNumber):
                Share((0, 2, 1))(wrong)

    def test_repr(self):
        self.assertEqual(repr(Share((0, 2, 1))), "Share(0 2 1)")
        self.assertEqual(repr(Share((30, 0))), "Share(30 0)")
        self.assertEqual(str(Share((1, 2, 3, 4, 5, 6))), "Share(1 2 3 4 5 6)")

    def test_a_share_is_not_iterated_over(self):
        with self.assertRaises(TypeError):
            list(Share((0, 2, 1)))

    def test_a_share_does_not_change(self):
        share = Share((0, 2, 1))
        for name, value in (("amounts", (1, 1, 1)), ("total", 4)):
            with self.assertRaises(AttributeError):
                setattr(share, name, value)
        with self.assertRaises(TypeError):
            share[0] = 1
        for call in (lambda: share(4), lambda: share[3], lambda: share + share + share + (1, 2, 3)):
            with self.assertRaises(ValueError):
                call()
        self.assertEqual((share.amounts, share.total, share(2), len(share)), ((0, 2, 1), 3, 1, 3))


class TestAdding(unittest.TestCase):
    def test_sums(self):
        total = Share((0, 2, 1)) + Share((1, 1, 0))
        self.assertIs(type(total), Share)
        self.assertEqual(total.amounts, (1, 3, 1))
        self.assertEqual((Share((1, 2)) + Share((10, 20))).amounts, (11, 22))
        self.assertEqual((Share((1, 2, 3, 4, 5, 6)) + Share((6, 5, 4, 3, 2, 0))).amounts, (7, 7, 7, 7, 7, 6))

    def test_summands_stay_as_they_are(self):
        one, other = Share((0, 2, 1)), Share((1, 1, 0))
        kept = one
        one += other
        self.assertEqual((one.amounts, kept.amounts, other.amounts), ((1, 3, 1), (0, 2, 1), (1, 1, 0)))

    def test_a_sum_of_thirty_and_of_more(self):
        self.assertEqual((Share((30, 0, 15)) + Share((0, 30, 15))).amounts, (30, 30, 30))
        for one, other in (((30, 0), (1, 0)), ((0, 15), (0, 16)), ((30, 30, 30), (30, 30, 30)), ((0, 1, 0), (0, 30, 0))):
            with self.subTest((one, other)), self.assertRaises(NoAmounts):
                Share(one) + Share(other)

    def test_another_number_of_states(self):
        for few in range(2, 7):
            for many in range(2, 7):
                if few != many:
                    # Also where a sum would be too great: NoShare is listed first.
                    for amount in (0, 30):
                        with self.subTest((few, many, amount)), self.assertRaises(NoShare):
                            Share((amount,) * few) + Share((amount,) * many)

    def test_what_is_not_a_share(self):
        for wrong in not_shares() + [1.0]:
            with self.subTest(repr(wrong)[:60]):
                with self.assertRaises(NoShare):
                    Share((0, 1)) + wrong
                with self.assertRaises(NoShare):
                    wrong + Share((0, 1))


class TestEquality(unittest.TestCase):
    def test_equal_exactly_if_the_amounts_are(self):
        shares = shares_to(2, 2) + shares_to(2, 3)
        for one in shares:
            for other in shares:
                same = one.amounts == other.amounts
                self.assertIs(one == other, same)
                self.assertIs(one != other, not same)

    def test_equal_though_another_object(self):
        self.assertIs(Share((0, 2, 1)) == Share((0, 2, 1)), True)
        self.assertIs(Share((0, 2, 1)) != Share((0, 2, 1)), False)

    def test_the_same_amounts_in_another_order(self):
        self.assertIs(Share((0, 2, 1)) == Share((0, 1, 2)), False)
        self.assertIs(Share((0, 2, 1)) != Share((0, 1, 2)), True)

    def test_equal_to_nothing_else(self):
        share = Share((0, 1))
        division = Division(share, share)
        for thing in not_shares() + [[0, 1], "Share(0 1)", share.amounts, division]:
            with self.subTest(repr(thing)[:60]):
                self.assertIs(share == thing, False)
                self.assertIs(thing == share, False)
                self.assertIs(share != thing, True)
                self.assertIs(thing != share, True)

    def test_shares_inside_tuples_and_lists(self):
        self.assertEqual((Share((0, 1)), [Share((1, 0))]), (Share((0, 1)), [Share((1, 0))]))
        self.assertNotEqual((Share((0, 1)), 1), ((0, 1), 1))


if __name__ == "__main__":
    unittest.main()
