"""`sheet_of` and `news_of`: points [8] and [9], with the sums of [7] that they rest on."""

import copy
import inspect
import itertools
import unittest

from twicetold.sheets import balance_of, balances_of, news_of, sheet_of

HUGE = 10 ** 110 - 1


class SheetOfTest(unittest.TestCase):
    def assert_sheet(self, contents, account, first, last, expected):
        with self.subTest(contents=contents, account=account, first=first, last=last):
            before = copy.deepcopy(contents)
            sheet = sheet_of(contents, account, first, last)
            self.assertEqual(sheet, expected)
            self.assertEqual([type(part) for part in sheet], [int, list, int])
            self.assertIs(type(sheet), tuple)
            for line in sheet[1]:
                self.assertIs(type(line), tuple)
            self.assertEqual(contents, before)

    def test_takes_its_arguments_under_their_names(self):
        self.assertEqual(list(inspect.signature(sheet_of).parameters), ["contents", "account", "first", "last"])
        self.assertEqual(sheet_of(contents=[(5, "a", "b", 3)], account="b", first=5, last=6), (0, [(5, 0, "a", 3)], 3))

    def test_no_contents(self):
        for first, last in ((0, 0), (-3, 7), (-HUGE, HUGE)):
            self.assert_sheet([], "a", first, last, (0, [], 0))
            self.assert_sheet([], "", first, last, (0, [], 0))

    def test_none_among_the_contents_keeps_its_number(self):
        contents = [None, (5, "a", "b", 3), None, None, (5, "b", "a", 1), None]
        self.assert_sheet(contents, "a", 5, 5, (0, [(5, 1, "b", -3), (5, 4, "b", 1)], -2))
        self.assert_sheet([None, None], "a", 5, 5, (0, [], 0))

    def test_the_side_that_loses_the_side_that_gets_and_neither(self):
        contents = [(5, "till", "bank", 30)]
        self.assert_sheet(contents, "till", 4, 6, (0, [(5, 0, "bank", -30)], -30))
        self.assert_sheet(contents, "bank", 4, 6, (0, [(5, 0, "till", 30)], 30))
        for account in ("", "Till", "til", "banks", "one", "other"):
            self.assert_sheet(contents, account, 4, 6, (0, [], 0))

    def test_the_empty_name_is_an_account(self):
        contents = [(5, "", "bank", 30), (6, "till", "", 7)]
        self.assert_sheet(contents, "", 4, 6, (0, [(5, 0, "bank", -30), (6, 1, "till", 7)], -23))
        self.assert_sheet(contents, "bank", 4, 6, (0, [(5, 0, "", 30)], 30))
        self.assert_sheet(contents, "till", 4, 6, (0, [(6, 1, "", -7)], -7))

    def test_ahead_of_the_first_day_on_it_between_on_the_last_and_behind_it(self):
        contents = [(day, "a", "b", 10 ** place) for place, day in enumerate((-90, 3, 4, 5, 6, 7, 90))]
        lines = [(4, 2, "a", 100), (5, 3, "a", 1000), (6, 4, "a", 10000)]
        self.assert_sheet(contents, "b", 4, 6, (11, lines, 11111))
        self.assert_sheet(contents, "b", 5, 6, (111, lines[1:], 11111))
        self.assert_sheet(contents, "b", 4, 5, (11, lines[:2], 1111))

    def test_a_single_posting_and_every_stretch_of_days_round_it(self):
        for first, last in itertools.combinations_with_replacement(range(-3, 4), 2):
            ahead = -9 if first > 0 else 0
            lines = [(0, 0, "b", -9)] if first <= 0 <= last else []
            self.assert_sheet([(0, "a", "b", 9)], "a", first, last, (ahead, lines, -9 if last >= 0 else 0))

    def test_first_and_last_the_same(self):
        contents = [(4, "a", "b", 1), (5, "a", "b", 10), (6, "a", "b", 100)]
        self.assert_sheet(contents, "b", 3, 3, (0, [], 0))
        self.assert_sheet(contents, "b", 4, 4, (0, [(4, 0, "a", 1)], 1))
        self.assert_sheet(contents, "b", 5, 5, (1, [(5, 1, "a", 10)], 11))
        self.assert_sheet(contents, "b", 7, 7, (111, [], 111))

    def test_lines_of_one_day_stand_in_the_order_of_numbers(self):
        # Neither the names nor the amounts are in order, so neither can bring the lines into theirs.
        contents = [(5, "z", "a", 9), (5, "a", "y", 1), (5, "b", "a", 5), (5, "a", "x", 7)]
        lines = [(5, 0, "z", 9), (5, 1, "y", -1), (5, 2, "b", 5), (5, 3, "x", -7)]
        self.assert_sheet(contents, "a", 5, 5, (0, lines, 6))

    def test_lines_stand_in_the_order_of_days_ahead_of_that_of_numbers(self):
        contents = [(7, "a", "b", 1), (-2, "a", "c", 2), (7, "c", "a", 4), (0, "b", "a", 8), (-2, "b", "a", 16)]
        lines = [(-2, 1, "c", -2), (-2, 4, "b", 16), (0, 3, "b", 8), (7, 0, "b", -1), (7, 2, "c", 4)]
        self.assert_sheet(contents, "a", -2, 7, (0, lines, 25))
        self.assert_sheet(contents, "a", -1, 6, (14, lines[2:3], 22))

    def test_more_than_ten_postings_of_one_day_stand_by_their_numbers_as_numbers(self):
        contents = [(5, "a", "b", 1)] * 120
        self.assert_sheet(contents, "b", 5, 5, (0, [(5, number, "a", 1) for number in range(120)], 120))

    def test_days_below_nought(self):
        contents = [(-7, "a", "b", 1), (-6, "a", "b", 10), (-1, "a", "b", 100), (0, "a", "b", 1000)]
        self.assert_sheet(contents, "a", -6, -1, (-1, [(-6, 1, "b", -10), (-1, 2, "b", -100)], -111))
        self.assert_sheet(contents, "a", -7, -7, (0, [(-7, 0, "b", -1)], -1))
        self.assert_sheet(contents, "a", 0, 1, (-111, [(0, 3, "b", -1000)], -1111))

    def test_numbers_of_a_hundred_figures_and_beyond(self):
        for big in (10 ** 99 + 1, HUGE, HUGE * 1000):
            contents = [(big, "a", "b", big), (-big, "a", "b", big - 1), (big - 1, "b", "a", big), None]
            self.assert_sheet(contents, "a", -big, big,
                              (0, [(-big, 1, "b", 1 - big), (big - 1, 2, "b", big), (big, 0, "b", -big)], 1 - big))
            self.assert_sheet(contents, "b", 1 - big, big - 1, (big - 1, [(big - 1, 2, "a", -big)], -1))
            self.assert_sheet(contents, "b", big, big, (-1, [(big, 0, "a", big)], big - 1))

    def test_the_lines_are_a_list_of_their_own(self):
        contents = [(5, "a", "b", 1)]
        sheet_of(contents, "a", 5, 5)[1].clear()
        self.assertEqual(sheet_of(contents, "a", 5, 5), (0, [(5, 0, "b", -1)], -1))

    def test_every_short_list_adds_up_and_goes_on(self):
        choices = [None, (0, "a", "b", 1), (1, "b", "a", 3), (2, "c", "a", 5), (1, "b", "c", 7)]
        for contents in itertools.product(choices, repeat=3):
            for first, last in itertools.combinations_with_replacement(range(-1, 4), 2):
                ahead, lines, end = sheet_of(list(contents), "a", first, last)
                with self.subTest(contents=contents, first=first, last=last):
                    self.assertEqual(ahead + sum(line[3] for line in lines), end)
                    self.assertEqual(sheet_of(list(contents), "a", last + 1, last + 2)[0], end)
                    self.assertEqual(lines, sorted(lines, key=lambda line: line[:2]))


class NewsOfTest(unittest.TestCase):
    def assert_news(self, contents, later, account, day, expected):
        with self.subTest(contents=contents, later=later, account=account, day=day):
            before = copy.deepcopy((contents, later))
            news = news_of(contents, later, account, day)
            self.assertEqual(news, expected)
            self.assertIs(type(news), list)
            for entry in news:
                self.assertIs(type(entry), tuple)
                self.assertEqual([type(part) for part in entry], [int, int, int])
            self.assertEqual((contents, later), before)

    def test_takes_its_arguments_under_their_names(self):
        self.assertEqual(list(inspect.signature(news_of).parameters), ["contents", "later", "account", "day"])
        self.assertEqual(news_of(contents=[], later=[(5, "a", "b", 3)], account="b", day=5), [(0, 0, 3)])

    def test_no_contents(self):
        self.assert_news([], [], "a", 5, [])

    def test_the_same_list_twice(self):
        contents = [(5, "a", "b", 3), None, (6, "b", "a", 4)]
        for account in ("a", "b", "c", ""):
            for day in (4, 5, 6, 7):
                self.assert_news(contents, contents, account, day, [])
                self.assert_news(contents, list(contents), account, day, [])

    def test_another_amount(self):
        self.assert_news([(5, "a", "b", 3)], [(5, "a", "b", 4)], "a", 5, [(0, -3, -4)])
        self.assert_news([(5, "a", "b", 3)], [(5, "a", "b", 4)], "b", 5, [(0, 3, 4)])
        self.assert_news([(5, "a", "b", 3)], [(5, "a", "b", 4)], "c", 5, [])

    def test_sides_turned_round(self):
        self.assert_news([(5, "a", "b", 3)], [(5, "b", "a", 3)], "a", 5, [(0, -3, 3)])
        self.assert_news([(5, "a", "b", 3)], [(5, "b", "a", 3)], "b", 5, [(0, 3, -3)])

    def test_another_account(self):
        self.assert_news([(5, "a", "b", 3)], [(5, "a", "c", 3)], "b", 5, [(0, 3, 0)])
        self.assert_news([(5, "a", "b", 3)], [(5, "a", "c", 3)], "c", 5, [(0, 0, 3)])

    def test_another_day(self):
        self.assert_news([(5, "a", "b", 3)], [(7, "a", "b", 3)], "a", 4, [])
        self.assert_news([(5, "a", "b", 3)], [(7, "a", "b", 3)], "a", 5, [(0, -3, 0)])
        self.assert_news([(5, "a", "b", 3)], [(7, "a", "b", 3)], "a", 6, [(0, -3, 0)])
        self.assert_news([(5, "a", "b", 3)], [(7, "a", "b", 3)], "a", 7, [])
        self.assert_news([(7, "a", "b", 3)], [(5, "a", "b", 3)], "a", 6, [(0, 0, -3)])

    def test_struck(self):
        self.assert_news([(5, "a", "b", 3)], [None], "a", 5, [(0, -3, 0)])
        self.assert_news([(5, "a", "b", 3)], [None], "b", 9, [(0, 3, 0)])
        self.assert_news([(5, "a", "b", 3)], [None], "b", 4, [])

    def test_told_later(self):
        self.assert_news([None], [(5, "a", "b", 3)], "a", 5, [(0, 0, -3)])
        self.assert_news([None], [(5, "a", "b", 3)], "a", 4, [])

    def test_none_on_both_sides(self):
        self.assert_news([None, None], [None], "a", 5, [])

    def test_the_second_list_is_the_longer_one(self):
        contents = [(5, "a", "b", 3)]
        later = [(5, "a", "b", 3), None, (4, "b", "a", 8), (6, "a", "b", 1), (5, "a", "c", 2)]
        self.assert_news(contents, later, "a", 5, [(2, 0, 8), (4, 0, -2)])
        self.assert_news([], later, "a", 5, [(0, 0, -3), (2, 0, 8), (4, 0, -2)])

    def test_the_first_list_is_the_longer_one(self):
        contents = [(5, "a", "b", 3), None, (4, "b", "a", 8), (6, "a", "b", 1), (5, "a", "c", 2)]
        later = [(5, "a", "b", 3)]
        self.assert_news(contents, later, "a", 5, [(2, 8, 0), (4, -2, 0)])
        self.assert_news(contents, [], "a", 5, [(0, -3, 0), (2, 8, 0), (4, -2, 0)])

    def test_known_otherwise_with_the_same_amount_is_no_news(self):
        self.assert_news([(5, "a", "b", 3)], [(4, "a", "b", 3)], "a", 5, [])
        self.assert_news([(5, "a", "b", 3)], [(5, "a", "c", 3)], "a", 5, [])
        self.assert_news([(5, "a", "b", 3)], [(-2, "c", "b", 3)], "b", 5, [])
        self.assert_news([(5, "c", "b", 3)], [(5, "b", "c", 9)], "a", 5, [])
        self.assert_news([(5, "c", "b", 3)], [None], "a", 5, [])
        self.assert_news([], [(5, "c", "b", 3)], "a", 5, [])

    def test_a_change_behind_the_day_is_no_news(self):
        self.assert_news([(6, "a", "b", 3)], [(6, "a", "b", 4)], "a", 5, [])
        self.assert_news([(6, "a", "b", 3)], [(9, "b", "a", 4)], "a", 5, [])
        self.assert_news([(6, "a", "b", 3)], [None], "a", 5, [])
        self.assert_news([(6, "a", "b", 3)], [], "a", 5, [])
        self.assert_news([], [(6, "a", "b", 3)], "a", 5, [])
        self.assert_news([(6, "a", "b", 3)], [(6, "a", "b", 4)], "a", 6, [(0, -3, -4)])

    def test_news_stand_in_the_order_of_numbers(self):
        contents = [(9, "a", "b", 9), (-4, "a", "b", 2), (3, "b", "a", 5)] * 5
        later = [(9, "a", "b", 1), (-4, "a", "b", 7), None] * 5
        expected = []
        for number in range(0, 15, 3):
            expected += [(number, -9, -1), (number + 1, -2, -7), (number + 2, 5, 0)]
        self.assert_news(contents, later, "a", 9, expected)

    def test_the_empty_name_is_an_account(self):
        self.assert_news([(5, "", "b", 3)], [(5, "b", "", 4)], "", 5, [(0, -3, 4)])

    def test_numbers_of_a_hundred_figures_and_beyond(self):
        for big in (10 ** 99 + 1, HUGE, HUGE * 1000):
            contents = [(-big, "a", "b", big), (big, "a", "b", big)]
            later = [(-big, "a", "b", big - 1), (big + 1, "a", "b", big)]
            self.assert_news(contents, later, "a", -big - 1, [])
            self.assert_news(contents, later, "a", -big, [(0, -big, 1 - big)])
            self.assert_news(contents, later, "b", big, [(0, big, big - 1), (1, big, 0)])
            self.assert_news(contents, later, "b", big + 1, [(0, big, big - 1)])

    def test_every_pair_of_short_lists_tells_the_difference_of_the_balances(self):
        choices = [None, (0, "a", "b", 1), (1, "b", "a", 3), (1, "c", "b", 5)]
        lists = [list(part) for length in range(3) for part in itertools.product(choices, repeat=length)]
        for contents, later in itertools.product(lists, repeat=2):
            for day in (-1, 0, 1):
                news = news_of(contents, later, "a", day)
                with self.subTest(contents=contents, later=later, day=day):
                    change = sum(entry[2] - entry[1] for entry in news)
                    self.assertEqual(balance_of(contents, "a", day) + change, balance_of(later, "a", day))
                    self.assertEqual(news_of(later, contents, "a", day), [(n, y, x) for n, x, y in news])


class BalancesOfTest(unittest.TestCase):
    def test_the_sum_of_what_all_do_up_to_the_day(self):
        contents = [(5, "a", "b", 3), None, (6, "b", "a", 10), (4, "c", "a", 100)]
        self.assertEqual([balance_of(contents, "a", day) for day in (3, 4, 5, 6, 7)], [0, 100, 97, 107, 107])
        self.assertEqual([balance_of(contents, "b", day) for day in (3, 4, 5, 6, 7)], [0, 0, 3, -7, -7])
        self.assertEqual(balance_of([], "a", 5), 0)

    def test_all_accounts_in_the_order_of_names_without_those_at_nought(self):
        contents = [(5, "b", "", 3), (6, "a", "b", 3), None, (5, "Z", "a", 1)]
        self.assertEqual(balances_of(contents, 4), [])
        self.assertEqual(balances_of(contents, 5), [("", 3), ("Z", -1), ("a", 1), ("b", -3)])
        self.assertEqual(balances_of(contents, 6), [("", 3), ("Z", -1), ("a", -2)])
        self.assertEqual(balances_of([], 5), [])


if __name__ == "__main__":
    unittest.main()
