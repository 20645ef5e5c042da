"""`effect`: point [6], within the bounds of [1], [2] and [3]."""

import inspect
import itertools
import unittest

from twicetold.contents import effect

HUGE = 10 ** 110 - 1


class EffectTest(unittest.TestCase):
    def test_takes_its_arguments_under_their_names(self):
        self.assertEqual(list(inspect.signature(effect).parameters), ["content", "account", "day"])
        self.assertEqual(effect(content=(5, "till", "bank", 30), account="bank", day=5), 30)

    def assert_effect(self, content, account, day, expected):
        with self.subTest(content=content, account=account, day=day):
            answer = effect(content, account, day)
            self.assertEqual(answer, expected)
            self.assertIs(type(answer), int)

    def test_struck_or_not_known_does_nought_to_any(self):
        for account in ("", "till", "None"):
            for day in (-HUGE, -1, 0, 1, HUGE):
                self.assert_effect(None, account, day, 0)

    def test_one_loses_the_amount_and_other_gets_it(self):
        content = (5, "till", "bank", 30)
        self.assert_effect(content, "till", 5, -30)
        self.assert_effect(content, "bank", 5, 30)

    def test_it_counts_from_its_own_day_on(self):
        content = (5, "till", "bank", 30)
        for day in (-HUGE, -5, 0, 4):
            self.assert_effect(content, "till", day, 0)
            self.assert_effect(content, "bank", day, 0)
        for day in (5, 6, HUGE):
            self.assert_effect(content, "till", day, -30)
            self.assert_effect(content, "bank", day, 30)

    def test_nought_to_an_account_that_is_neither(self):
        content = (5, "till", "bank", 30)
        for account in ("", "Till", "til", "till ", "banks", "other", "one"):
            for day in (4, 5, 6):
                self.assert_effect(content, account, day, 0)

    def test_the_empty_name_is_an_account(self):
        self.assert_effect((5, "", "bank", 30), "", 5, -30)
        self.assert_effect((5, "", "bank", 30), "", 4, 0)
        self.assert_effect((5, "", "bank", 30), "bank", 5, 30)
        self.assert_effect((5, "till", "", 30), "", 5, 30)
        self.assert_effect((5, "till", "", 30), "", 4, 0)
        self.assert_effect((5, "till", "", 30), "till", 5, -30)

    def test_names_beyond_ascii(self):
        self.assert_effect((0, "K\u00e4se", "Ka\u0308se", 2), "K\u00e4se", 0, -2)
        self.assert_effect((0, "K\u00e4se", "Ka\u0308se", 2), "Ka\u0308se", 0, 2)

    def test_days_below_nought_and_nought(self):
        for own_day in (-7, -1, 0, 1):
            content = (own_day, "till", "bank", 30)
            self.assert_effect(content, "till", own_day - 1, 0)
            self.assert_effect(content, "till", own_day, -30)
            self.assert_effect(content, "till", own_day + 1, -30)
            self.assert_effect(content, "bank", own_day - 1, 0)
            self.assert_effect(content, "bank", own_day, 30)
            self.assert_effect(content, "bank", own_day + 1, 30)

    def test_the_least_amount(self):
        self.assert_effect((0, "a", "b", 1), "a", 0, -1)
        self.assert_effect((0, "a", "b", 1), "b", 0, 1)

    def test_numbers_of_a_hundred_figures_and_beyond(self):
        for big in (10 ** 99 + 1, HUGE, HUGE * 1000):
            for own_day in (-big, big):
                content = (own_day, "a", "b", big)
                self.assert_effect(content, "a", own_day - 1, 0)
                self.assert_effect(content, "b", own_day - 1, 0)
                self.assert_effect(content, "a", own_day, -big)
                self.assert_effect(content, "b", own_day, big)
                self.assert_effect(content, "b", own_day + 1, big)
                self.assert_effect(content, "c", own_day, 0)

    def test_all_accounts_together_come_to_nought(self):
        names = ("", "a", "b")
        for one, other in itertools.permutations(names, 2):
            for day in range(-3, 4):
                with self.subTest(one=one, other=other, day=day):
                    self.assertEqual(sum(effect((0, one, other, 9), name, day) for name in names), 0)


if __name__ == "__main__":
    unittest.main()
