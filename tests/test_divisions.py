"""[20] and [21] Division, its text, and the general rules as far as they concern it."""

import unittest

from poolshares.divisions import Division
from poolshares.errors import NoAmounts, NoPeople, NoPerson, NoShare, NoText
from poolshares.shares import Share
from values import not_numbers, not_shares, odd_texts, odd_tuples, odd_values


def made(*rows):
    return Division(*[Share(row) for row in rows])


SESSION = ((0, 2, 1), (0, 0, 1), (1, 1, 0))
ORDINARY = [
    SESSION,
    ((0, 1), (1, 0)),
    ((0, 0), (0, 0)),
    ((30, 30), (30, 30), (30, 30), (30, 30)),
    ((1, 2, 3, 4), (4, 3, 2, 1), (0, 0, 0, 10)),
    ((10, 20, 30, 0, 9, 1), (1, 9, 0, 30, 20, 10)),
    ((5, 4, 3, 2, 1),) * 4,
]


class TestMaking(unittest.TestCase):
    def test_ordinary_divisions(self):
        for rows in ORDINARY:
            with self.subTest(rows):
                division = made(*rows)
                self.assertEqual(division.shares, tuple(Share(row) for row in rows))
                self.assertEqual(division.people, len(rows))
                self.assertEqual(division.states, len(rows[0]))
                self.assertEqual(division.totals, tuple(sum(column) for column in zip(*rows)))

    def test_the_session(self):
        division = made(*SESSION)
        self.assertEqual((division.people, division.states, division.totals), (3, 3, (1, 3, 2)))

    def test_kinds(self):
        division = made(*SESSION)
        self.assertEqual((type(division.shares), type(division.totals)), (tuple, tuple))
        self.assertEqual([type(share) for share in division.shares], [Share] * 3)
        self.assertEqual([type(total) for total in division.totals], [int] * 3)
        self.assertEqual((type(division.people), type(division.states)), (int, int))

    def test_numbers_of_people(self):
        for many in range(8):
            shares = [Share((1, 2))] * many
            with self.subTest(many):
                if 2 <= many <= 4:
                    self.assertEqual(Division(*shares).people, many)
                else:
                    with self.assertRaises(NoPeople):
                        Division(*shares)

    def test_another_number_of_states(self):
        for first in range(2, 7):
            for second in range(2, 7):
                if first != second:
                    few, many = Share((1,) * first), Share((1,) * second)
                    for shares in ((few, many), (few, few, many), (few, many, few), (few, few, few, many)):
                        with self.subTest((first, second)), self.assertRaises(NoShare):
                            Division(*shares)

    def test_what_is_not_a_share(self):
        share = Share((0, 1))
        for wrong in not_shares():
            for shares in ((wrong, share), (share, wrong), (share, share, share, wrong), (wrong, wrong)):
                with self.subTest(repr(wrong)[:60]), self.assertRaises(NoShare):
                    Division(*shares)

    def test_no_share_is_raised_before_no_people(self):
        share, longer = Share((0, 1)), Share((0, 1, 2))
        for shares in ((None,), ((share, share),), ([share, share],), (share, share, share, share, longer),
                       (share, share, share, share, 1), (True,) * 5, (longer, *[share] * 6)):
            with self.subTest(shares), self.assertRaises(NoShare):
                Division(*shares)

    def test_most(self):
        self.assertIs(type(Division.MOST), int)
        self.assertEqual(Division.MOST, 30)
        self.assertEqual(made(*SESSION).MOST, 30)
        self.assertEqual(Share((Division.MOST, 0)).total, 30)
        with self.assertRaises(NoAmounts):
            Share((Division.MOST + 1, 0))

    def test_a_division_does_not_change(self):
        shares = [Share((0, 1)), Share((1, 0))]
        division = Division(*shares)
        shares.append(Share((5, 5)))
        shares[0] = Share((7, 7))
        for name in ("shares", "people", "states", "totals"):
            with self.assertRaises(AttributeError):
                setattr(division, name, 2)
        with self.assertRaises(TypeError):
            division[0] = Share((7, 7))
        for call in (lambda: division[2], lambda: Division.read(division), lambda: Division(division)):
            with self.assertRaises(ValueError):
                call()
        self.assertEqual(division.text(), "0 1\n1 0\n")
        self.assertEqual((division.people, division.states, division.totals), (2, 2, (1, 1)))


class TestReading(unittest.TestCase):
    def test_people(self):
        for rows in ORDINARY:
            division = made(*rows)
            self.assertEqual([division[person] for person in range(len(rows))], [Share(row) for row in rows])
            self.assertIs(type(division[0]), Share)

    def test_people_that_are_not_there(self):
        for rows in ORDINARY:
            for person in (-1, -len(rows), len(rows), len(rows) + 1, 10 ** 13 - 1):
                with self.subTest((rows, person)), self.assertRaises(NoPerson):
                    made(*rows)[person]

    def test_people_that_are_not_integers(self):
        for wrong in not_numbers() + [(0, 1), 1.0]:
            with self.subTest(repr(wrong)[:60]), self.assertRaises(NoPerson):
                made(*SESSION)[wrong]

    def test_repr(self):
        self.assertEqual(repr(made(*SESSION)), "Division(3 people, 3 states)")
        self.assertEqual(repr(made((0, 1, 2, 3, 4, 5), (5, 4, 3, 2, 1, 0))), "Division(2 people, 6 states)")
        self.assertEqual(str(made((0, 1), (0, 1), (0, 1), (0, 1))), "Division(4 people, 2 states)")

    def test_a_division_is_not_iterated_over(self):
        with self.assertRaises(TypeError):
            list(made(*SESSION))


class TestDoubled(unittest.TestCase):
    def test_twice_the_amounts(self):
        division = made(*SESSION)
        doubled = division.doubled()
        self.assertIs(type(doubled), Division)
        self.assertEqual(doubled, made((0, 4, 2), (0, 0, 2), (2, 2, 0)))
        self.assertEqual(doubled.totals, (2, 6, 4))
        self.assertEqual(division, made(*SESSION))

    def test_every_number_of_people_and_states(self):
        for people in range(2, 5):
            for states in range(2, 7):
                rows = [tuple((person + state) % 16 for state in range(states)) for person in range(people)]
                twice = [tuple(2 * amount for amount in row) for row in rows]
                self.assertEqual(made(*rows).doubled(), made(*twice))

    def test_fifteen_and_sixteen(self):
        self.assertEqual(made((15, 0), (0, 15)).doubled(), made((30, 0), (0, 30)))
        for rows in (((16, 0), (0, 0)), ((0, 0), (15, 16)), ((0, 1, 0), (0, 1, 0), (0, 1, 30)), ((30, 30),) * 4):
            with self.subTest(rows):
                division = made(*rows)
                with self.assertRaises(NoAmounts):
                    division.doubled()
                self.assertEqual(division, made(*rows))


class TestEquality(unittest.TestCase):
    def test_equal_exactly_if_the_shares_are(self):
        cases = ORDINARY + [
            ((0, 0, 1), (0, 2, 1), (1, 1, 0)), ((1, 0), (0, 1)), ((0, 1), (1, 0), (0, 0)), ((0, 0, 0), (0, 0, 0)),
            ((0, 2, 1), (0, 0, 1)), ((0, 2, 1), (0, 1, 0), (1, 1, 0)), ((0, 0), (0, 0), (0, 0)),
        ]
        for one in cases:
            for other in cases:
                self.assertIs(made(*one) == made(*other), one == other)
                self.assertIs(made(*one) != made(*other), one != other)

    def test_equal_to_nothing_else(self):
        division = made((0, 1), (1, 0))
        others = [thing for thing in not_shares() if not isinstance(thing, Division)]
        others += [division.shares, list(division.shares), division.text(), repr(division), division[0], 2]
        for thing in others:
            with self.subTest(repr(thing)[:60]):
                self.assertIs(division == thing, False)
                self.assertIs(thing == division, False)
                self.assertIs(division != thing, True)
                self.assertIs(thing != division, True)


class TestText(unittest.TestCase):
    def test_texts(self):
        self.assertEqual(made(*SESSION).text(), "0 2 1\n0 0 1\n1 1 0\n")
        self.assertEqual(made((1, 1, 1), (0, 1, 0), (0, 1, 1)).text(), "1 1 1\n0 1 0\n0 1 1\n")
        self.assertEqual(made((0, 30), (10, 9)).text(), "0 30\n10 9\n")
        self.assertIs(type(made(*SESSION).text()), str)

    def test_read_texts(self):
        for rows in ORDINARY:
            with self.subTest(rows):
                division = made(*rows)
                again = Division.read(division.text())
                self.assertIs(type(again), Division)
                self.assertEqual(again, division)
                self.assertEqual(again.text(), division.text())
        self.assertEqual(Division.read(text="0 30\n10 9\n"), made((0, 30), (10, 9)))

    def test_every_amount(self):
        for amount in range(31):
            self.assertEqual(Division.read(f"0 {amount}\n{amount} 7\n"), made((0, amount), (amount, 7)))
        for amount in range(31, 102):
            with self.assertRaises(NoText):
                Division.read(f"0 {amount}\n{amount} 7\n")

    def test_texts_that_are_not_of_a_division(self):
        for text in (
            "", "\n", "\n\n", " ", "0", "0 1", "0 1\n", "0 1\n1 0", "0 1\n1 0\n\n", "\n0 1\n1 0\n", "0 1\n\n1 0\n",
            "0 1\n" * 5, "0 1\n" * 100, "0\n1\n", "0 1 2 3 4 5 6\n" * 2, "0 1\n1 0 2\n", "0 1 2\n1 0\n",
            "0 1\n1 0\n0\n", "0  1\n1 0\n", " 0 1\n1 0\n", "0 1 \n1 0\n", "0 1\n1 0 \n", "0 1\n1 0\n ", "0 1\n1 0\n0",
            "00 1\n1 0\n", "0 01\n1 0\n", "+0 1\n1 0\n", "-0 1\n1 0\n", "0 -1\n1 0\n", "0 31\n1 0\n", "0 1_0\n1 0\n",
            "0,1\n1,0\n", "0\t1\n1\t0\n", "0 1\r\n1 0\r\n", "0 1\r1 0\r", "0 a\n1 0\n", "0 1.\n1 0\n", "0 1.0\n1 0\n",
            "0 0x1\n1 0\n", "0 1e0\n1 0\n", "0 one\n1 0\n", "Share(0 1)\nShare(1 0)\n", "Division(2 people, 2 states)",
            "0 1\n1 0\n\x00", "0 \u0661\n1 0\n", "0 \u00b2\n1 0\n", "0 1\x0b1 0\n", "0\u00a01\n1 0\n", "0 1\u20281 0\n",
            "9" * 13 + " 1\n1 0\n", "((0, 1), (1, 0))", "0 1\\n1 0\\n", "0 " * 500,
        ):
            with self.subTest(text[:40]), self.assertRaises(NoText):
                Division.read(text)

    def test_one_sign_changed_added_or_omitted(self):
        text = "0 12 1\n3 0 20\n"
        signs = "0123456789 \n+-._,;aA#"
        changed = [text[:at] + text[at + 1:] for at in range(len(text))]
        for sign in signs:
            changed += [text[:at] + sign + text[at + 1:] for at in range(len(text))]
            changed += [text[:at] + sign + text[at:] for at in range(len(text) + 1)]
        for other in changed:
            self.check_read(other)

    def test_words_and_lines_changed_added_or_omitted(self):
        lines = ["0 12 1\n", "3 0 20\n", "5 5 5\n"]
        for at in range(3):
            for line in ("", "\n", "0 12\n", "0 12 1 1\n", "0 12 1", "0 12 x\n", "0 12 31\n", "0 12 1\n0 12 1\n", " \n"):
                self.check_read("".join(lines[:at] + [line] + lines[at + 1:]))
                self.check_read("".join(lines[:at] + [line] + lines[at:]))
        for many in range(7):
            self.check_read("1 2 3\n" * many)
            self.check_read(("1 " * many)[:-1] + "\n" + ("2 " * many)[:-1] + "\n")

    def check_read(self, text):
        """The reference is written another way: it compares with the text of what Python's int reads."""
        rows = [line.split() for line in text.splitlines()]
        fits = all(word.isdigit() and int(word) <= 30 for row in rows for word in row)
        fits = fits and 2 <= len(rows) <= 4 and 2 <= len(rows[0]) <= 6 and len({len(row) for row in rows}) == 1
        if fits and text == "".join(" ".join(str(int(word)) for word in row) + "\n" for row in rows):
            self.assertEqual(Division.read(text), made(*[tuple(int(word) for word in row) for row in rows]))
        else:
            with self.subTest(text), self.assertRaises(NoText):
                Division.read(text)

    def test_values_that_are_not_texts(self):
        division = made((0, 1), (1, 0))
        good = division.text()
        for wrong in odd_values() + odd_texts() + odd_tuples() + [
            0, 1, 10 ** 13 - 1, [good], (good,), {good: good}, division, division.shares, good.encode(), [*good],
            good.splitlines(True), ((0, 1), (1, 0)), [[0, 1], [1, 0]],
        ]:
            with self.subTest(repr(wrong)[:60]), self.assertRaises(NoText):
                Division.read(wrong)


if __name__ == "__main__":
    unittest.main()
