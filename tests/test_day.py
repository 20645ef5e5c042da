"""`answers`, `balances` and `history`: points [2] to [5], [7] and [10] to [12]."""

import copy
import inspect
import unittest

from twicetold.day import answers, balances, history

HUGE = 10 ** 110 - 1
MOVE = ("move", 5, "till", "bank", 30)


class DayTest(unittest.TestCase):
    def assert_answers(self, deeds, expected):
        with self.subTest(deeds=deeds):
            before = copy.deepcopy(deeds)
            found = answers(deeds)
            self.assertEqual(found, expected)
            self.assertIs(type(found), list)
            self.assertEqual([type(answer) for answer in found], [type(answer) for answer in expected])
            self.assertEqual(deeds, before)

    def assert_last(self, deeds, expected):
        """What the last of the deeds is answered with, whatever the ones ahead of it are."""
        self.assert_answers(deeds, answers(deeds[:-1]) + [expected])

    def hour_behind(self, deeds):
        """The hour that it is behind the deeds: the last one that a balance may be asked for."""
        hour = 0
        while answers(deeds + [("balance", "till", 0, hour + 1)])[-1] != "not yet":
            hour += 1
        return hour


class InterfaceTest(unittest.TestCase):
    def test_the_arguments_under_their_names(self):
        self.assertEqual(list(inspect.signature(answers).parameters), ["deeds"])
        self.assertEqual(list(inspect.signature(balances).parameters), ["deeds", "day", "hour"])
        self.assertEqual(list(inspect.signature(history).parameters), ["deeds", "number"])
        self.assertEqual(answers(deeds=[MOVE]), [0])
        self.assertEqual(balances(deeds=[MOVE], day=5, hour=1), [("bank", 30), ("till", -30)])
        self.assertEqual(history(deeds=[MOVE], number=0), [(1, (5, "till", "bank", 30))])


class ChangingDeedsTest(DayTest):
    def test_no_deeds(self):
        self.assert_answers([], [])

    def test_a_move_is_answered_with_its_number(self):
        self.assert_answers([MOVE], [0])
        self.assert_answers([MOVE, MOVE, ("move", -5, "", "bank", 1), MOVE], [0, 1, 2, 3])

    def test_numbers_count_postings_and_not_hours(self):
        self.assert_answers([("close", 0), MOVE, ("strike", 0), MOVE, ("right", 1, 5, "a", "b", 1), MOVE],
                            [1, 0, 3, 1, 5, 2])

    def test_a_refused_move_takes_no_number(self):
        self.assert_answers([("move", 5, "a", "a", 3), MOVE, ("move", 5, "a", "b", 0), MOVE],
                            ["same account", 0, "no amount", 1])

    def test_right_is_answered_with_the_hour(self):
        self.assert_answers([MOVE, ("right", 0, 6, "bank", "till", 31)], [0, 2])
        self.assert_answers([MOVE, MOVE, MOVE, ("right", 1, 6, "a", "b", 31), ("right", 0, 6, "a", "b", 31)],
                            [0, 1, 2, 4, 5])

    def test_right_to_the_same_content_is_a_deed_like_another(self):
        same = ("right", 0, 5, "till", "bank", 30)
        self.assert_answers([MOVE, same, same, ("balance", "till", 5, 3)], [0, 2, 3, -30])
        self.assertEqual(history([MOVE, same, same], 0), [(hour, (5, "till", "bank", 30)) for hour in (1, 2, 3)])

    def test_a_posting_put_right_is_known_with_that_content_from_then_on(self):
        deeds = [MOVE, ("right", 0, 7, "bank", "shop", 4)]
        asked = [("balance", name, day, hour) for hour in (0, 1, 2) for day in (5, 7) for name in
                 ("till", "bank", "shop")]
        self.assert_answers(deeds + asked, [0, 2] + [0, 0, 0, 0, 0, 0] + [-30, 30, 0, -30, 30, 0] + [0, 0, 0, 0, -4, 4])

    def test_strike_is_answered_with_the_hour(self):
        self.assert_answers([MOVE, ("strike", 0)], [0, 2])
        self.assert_answers([MOVE, MOVE, MOVE, ("strike", 2), ("strike", 0)], [0, 1, 2, 4, 5])

    def test_a_struck_posting_is_none_from_then_on_and_earlier_hours_know_what_they_knew(self):
        asked = [("balance", "bank", 5, hour) for hour in (0, 1, 2, 3)]
        self.assert_answers([MOVE, ("strike", 0), MOVE] + asked, [0, 2, 1, 0, 30, 0, 30])

    def test_close_is_answered_with_the_hour(self):
        self.assert_answers([("close", 5)], [1])
        self.assert_answers([MOVE, ("close", 5), ("close", 6), ("close", HUGE)], [0, 2, 3, 4])
        self.assert_answers([("close", -HUGE), ("close", -1), ("close", 0)], [1, 2, 3])

    def test_numbers_of_a_hundred_figures(self):
        deeds = [("move", HUGE, "a", "b", HUGE), ("move", -HUGE, "b", "a", HUGE), ("right", 0, HUGE, "a", "b", HUGE - 1),
                 ("balance", "a", HUGE, 3), ("balance", "a", HUGE - 1, 3), ("balance", "a", HUGE, 2),
                 ("sheet", "b", -HUGE, HUGE, 3), ("news", "b", HUGE, 1, 3), ("close", HUGE - 1), ("strike", 1),
                 ("strike", 0), ("balance", "a", HUGE, HUGE)]
        self.assert_answers(deeds, [0, 1, 3, 1, HUGE, 0, (0, [(-HUGE, 1, "a", -HUGE), (HUGE, 0, "a", HUGE - 1)], -1),
                                    [(0, HUGE, HUGE - 1), (1, 0, -HUGE)], 4, "closed", 5, "not yet"])

    def test_somewhat_more_deeds_than_two_hundred(self):
        deeds = [("move", day, "a", "b", 1) for day in range(150)] + [("right", 7, 0, "a", "b", 2)] * 150
        self.assert_answers(deeds + [("balance", "b", 149, 300)], list(range(150)) + list(range(151, 301)) + [151])

    def test_each_list_of_deeds_has_a_book_of_its_own(self):
        for turn in range(2):
            self.assert_answers([MOVE, ("close", 5), MOVE], [0, 2, "closed"])


class AskingDeedsTest(DayTest):
    TOLD = [("move", 5, "till", "bank", 30), ("move", 4, "bank", "shop", 7), ("right", 0, 6, "till", "bank", 31),
            ("close", 1), ("strike", 1)]

    def test_balances_at_each_hour(self):
        asked = [("balance", "bank", 6, hour) for hour in range(6)]
        self.assert_answers(self.TOLD + asked, [0, 1, 3, 4, 5] + [0, 30, 23, 24, 24, 31])

    def test_balances_at_each_day(self):
        asked = [("balance", "bank", day, 4) for day in (-9, 3, 4, 5, 6, 7, HUGE)]
        self.assert_answers(self.TOLD + asked, [0, 1, 3, 4, 5] + [0, 0, -7, -7, 24, 24, 24])

    def test_every_name_is_an_account(self):
        asked = [("balance", name, 6, 5) for name in ("", "nobody", "Bank")]
        self.assert_answers(self.TOLD + asked, [0, 1, 3, 4, 5] + [0, 0, 0])

    def test_the_empty_name_is_an_account(self):
        deeds = [("move", 5, "", "bank", 30), ("move", 5, "bank", "", 1), ("balance", "", 5, 2)]
        self.assert_answers(deeds, [0, 1, -29])

    def test_sheets_at_each_hour(self):
        asked = [("sheet", "bank", 4, 6, hour) for hour in range(6)]
        self.assert_answers(self.TOLD + asked, [0, 1, 3, 4, 5] + [
            (0, [], 0),
            (0, [(5, 0, "till", 30)], 30),
            (0, [(4, 1, "shop", -7), (5, 0, "till", 30)], 23),
            (0, [(4, 1, "shop", -7), (6, 0, "till", 31)], 24),
            (0, [(4, 1, "shop", -7), (6, 0, "till", 31)], 24),
            (0, [(6, 0, "till", 31)], 31),
        ])

    def test_sheets_of_other_days(self):
        asked = [("sheet", "bank", 5, 5, 2), ("sheet", "bank", 6, 9, 2), ("sheet", "bank", -4, 4, 2)]
        self.assert_answers(self.TOLD + asked, [0, 1, 3, 4, 5] + [
            (-7, [(5, 0, "till", 30)], 23), (23, [], 23), (0, [(4, 1, "shop", -7)], -7)])

    def test_a_sheet_is_a_tuple_with_a_list_of_tuples(self):
        sheet = answers([MOVE, ("sheet", "till", 5, 5, 1)])[1]
        self.assertEqual([type(sheet), type(sheet[1]), type(sheet[1][0])], [tuple, list, tuple])

    def test_news_from_hour_to_hour(self):
        asked = [("news", "bank", 6, hour, hour + 1) for hour in range(5)]
        self.assert_answers(self.TOLD + asked, [0, 1, 3, 4, 5] + [
            [(0, 0, 30)], [(1, 0, -7)], [(0, 30, 31)], [], [(1, -7, 0)]])

    def test_news_over_several_hours(self):
        asked = [("news", "bank", 6, 0, 5), ("news", "bank", 6, 1, 4), ("news", "bank", 5, 2, 5),
                 ("news", "bank", 4, 1, 4), ("news", "bank", 3, 0, 5)]
        self.assert_answers(self.TOLD + asked, [0, 1, 3, 4, 5] + [
            [(0, 0, 31)], [(0, 30, 31), (1, 0, -7)], [(0, 30, 0), (1, -7, 0)], [(1, 0, -7)], []])

    def test_news_from_a_later_hour_to_an_earlier_one(self):
        asked = [("news", "bank", 6, 5, 0), ("news", "bank", 6, 4, 1), ("news", "bank", 6, 5, 2)]
        self.assert_answers(self.TOLD + asked, [0, 1, 3, 4, 5] + [
            [(0, 31, 0)], [(0, 31, 30), (1, -7, 0)], [(0, 31, 30), (1, 0, -7)]])

    def test_news_from_an_hour_to_itself(self):
        asked = [("news", "bank", 6, hour, hour) for hour in range(6)]
        self.assert_answers(self.TOLD + asked, [0, 1, 3, 4, 5] + [[]] * 6)

    def test_at_hour_nought_nothing_is_known(self):
        asked = [("balance", "bank", 6, 0), ("sheet", "bank", -9, 9, 0), ("news", "bank", 6, 0, 0)]
        self.assert_answers(asked, [0, (0, [], 0), []])
        self.assert_answers(self.TOLD + asked, [0, 1, 3, 4, 5] + [0, (0, [], 0), []])

    def test_an_answer_stays_what_it_was_when_it_was_asked(self):
        deeds = [MOVE, ("sheet", "bank", 5, 5, 1), ("news", "bank", 5, 0, 1), ("strike", 0), MOVE]
        self.assert_answers(deeds, [0, (0, [(5, 0, "till", 30)], 30), [(0, 0, 30)], 2, 1])


class RefusalsTest(DayTest):
    def test_no_posting(self):
        for deeds in ([], [MOVE], [MOVE, MOVE, ("strike", 0)], [("close", 9)]):
            told = sum(deed[0] == "move" for deed in deeds)
            for number in (told, told + 1, HUGE, -1, -2, -told, -HUGE):
                if number != 0 or told == 0:
                    self.assert_last(deeds + [("right", number, 5, "a", "b", 1)], "no posting")
                    self.assert_last(deeds + [("strike", number)], "no posting")

    def test_a_posting_is_not_there_before_it_is_told(self):
        self.assert_answers([("strike", 0), ("right", 0, 5, "a", "b", 1), MOVE, ("strike", 0)],
                            ["no posting", "no posting", 0, 2])

    def test_a_refused_move_leaves_no_posting(self):
        self.assert_answers([("move", 5, "a", "a", 1), ("strike", 0)], ["same account", "no posting"])

    def test_struck(self):
        deeds = [MOVE, MOVE, ("strike", 0)]
        self.assert_last(deeds + [("right", 0, 5, "a", "b", 1)], "struck")
        self.assert_last(deeds + [("right", 0, 5, "till", "bank", 30)], "struck")
        self.assert_last(deeds + [("strike", 0)], "struck")
        self.assert_last(deeds + [("strike", 1)], 4)
        self.assert_last(deeds + [("close", 9), ("strike", 0)], "struck")
        self.assert_last(deeds + [MOVE, ("strike", 0)], "struck")

    def test_same_account(self):
        for name in ("", "a", "till"):
            self.assert_last([("move", 5, name, name, 1)], "same account")
            self.assert_last([MOVE, ("right", 0, 5, name, name, 1)], "same account")
        self.assert_last([("move", 5, "a", "A", 1)], 0)
        self.assert_last([("move", 5, "a", "a ", 1)], 0)

    def test_no_amount(self):
        for amount in (0, -1, -30, -HUGE):
            self.assert_last([("move", 5, "a", "b", amount)], "no amount")
            self.assert_last([MOVE, ("right", 0, 5, "a", "b", amount)], "no amount")
        self.assert_last([("move", 5, "a", "b", 1)], 0)
        self.assert_last([MOVE, ("right", 0, 5, "a", "b", 1)], 2)

    def test_a_posting_told_for_a_closed_day(self):
        for last in (-3, 0, 5, HUGE):
            for day in (last, last - 1, last - HUGE):
                self.assert_last([("close", last), ("move", day, "a", "b", 1)], "closed")
            self.assert_last([("close", last), ("move", last + 1, "a", "b", 1)], 0)

    def test_without_a_closing_no_day_is_closed(self):
        for day in (-HUGE, -1, 0, 1):
            self.assert_last([("move", day, "a", "b", 1)], 0)

    def test_a_posting_put_right_to_a_closed_day(self):
        for day in (-HUGE, -1, 0, 3, 4):
            self.assert_last([MOVE, ("close", 4), ("right", 0, day, "till", "bank", 30)], "closed")
        self.assert_last([MOVE, ("close", 4), ("right", 0, 5, "till", "bank", 31)], 3)

    def test_a_posting_known_on_a_closed_day_is_not_put_right_or_struck(self):
        for last in (5, 6, 90):
            self.assert_last([MOVE, ("close", last), ("right", 0, 99, "till", "bank", 30)], "closed")
            self.assert_last([MOVE, ("close", last), ("right", 0, 5, "till", "bank", 30)], "closed")
            self.assert_last([MOVE, ("close", last), ("strike", 0)], "closed")
        self.assert_last([MOVE, ("close", 4), ("strike", 0)], 3)

    def test_the_day_it_is_known_on_counts_and_not_an_earlier_one(self):
        away = [MOVE, ("right", 0, 9, "till", "bank", 30), ("close", 5)]
        self.assert_last(away + [("strike", 0)], 4)
        self.assert_last(away + [("right", 0, 8, "till", "bank", 30)], 4)
        there = [("move", 9, "till", "bank", 30), ("right", 0, 5, "till", "bank", 30), ("close", 5)]
        self.assert_last(there + [("strike", 0)], "closed")
        self.assert_last(there + [("right", 0, 8, "till", "bank", 30)], "closed")

    def test_a_day_that_is_closed_already(self):
        for last in (-3, 0, 5):
            for day in (last, last - 1, -HUGE):
                self.assert_last([("close", last), ("close", day)], "closed")
            self.assert_last([("close", last), ("close", last + 1)], 2)

    def test_a_refused_closing_undoes_none(self):
        deeds = [("close", 5), ("close", 3), ("move", 4, "a", "b", 1), ("move", 5, "a", "b", 1), ("move", 6, "a", "b", 1)]
        self.assert_answers(deeds, [1, "closed", "closed", "closed", 0])

    def test_a_later_closing_closes_further_days(self):
        deeds = [MOVE, ("close", 4), ("right", 0, 6, "a", "b", 1), ("close", 6), ("strike", 0), ("close", 7),
                 ("move", 7, "a", "b", 1), ("move", 8, "a", "b", 1)]
        self.assert_answers(deeds, [0, 2, 3, 4, "closed", 5, "closed", 1])

    def test_a_closing_hinders_no_question(self):
        deeds = [MOVE, ("close", 9), ("balance", "bank", 5, 2), ("sheet", "bank", 1, 9, 2), ("news", "bank", 5, 0, 2)]
        self.assert_answers(deeds, [0, 2, 30, (0, [(5, 0, "till", 30)], 30), [(0, 0, 30)]])

    def test_no_days(self):
        for first, last in ((1, 0), (0, -1), (HUGE, -HUGE), (HUGE, HUGE - 1)):
            self.assert_last([MOVE, ("sheet", "till", first, last, 1)], "no days")
        self.assert_last([MOVE, ("sheet", "till", 5, 5, 1)], (0, [(5, 0, "bank", -30)], -30))

    def test_not_yet(self):
        for deeds in ([], [MOVE], [MOVE, ("strike", 0), ("close", 9)]):
            hour = len(deeds)
            for asked in (-HUGE, -1, hour + 1, HUGE):
                self.assert_last(deeds + [("balance", "till", 5, asked)], "not yet")
                self.assert_last(deeds + [("sheet", "till", 1, 9, asked)], "not yet")
                self.assert_last(deeds + [("news", "till", 5, asked, hour)], "not yet")
                self.assert_last(deeds + [("news", "till", 5, hour, asked)], "not yet")
                self.assert_last(deeds + [("news", "till", 5, 0, asked)], "not yet")
                self.assert_last(deeds + [("news", "till", 5, asked, asked)], "not yet")
            for asked in range(hour + 1):
                self.assertNotEqual(answers(deeds + [("balance", "till", 5, asked)])[-1], "not yet")
                self.assertNotEqual(answers(deeds + [("sheet", "till", 1, 9, asked)])[-1], "not yet")
                self.assertNotEqual(answers(deeds + [("news", "till", 5, asked, hour - asked)])[-1], "not yet")


class FirstRefusalTest(DayTest):
    """Where several refusals hold, the one that stands first is answered."""

    def test_no_posting_ahead_of_all_others(self):
        deeds = [("close", 9)]
        for deed in (("right", 0, 5, "a", "a", 0), ("right", -1, 10, "a", "a", 1), ("right", 3, 10, "a", "b", 0),
                     ("right", 1, 5, "a", "b", 1), ("strike", 0), ("strike", -1)):
            self.assert_last(deeds + [deed], "no posting")

    def test_a_number_below_nought_is_no_posting_even_where_the_last_one_is_struck(self):
        self.assert_last([MOVE, ("strike", 0), ("strike", -1)], "no posting")
        self.assert_last([MOVE, ("close", 9), ("right", -1, 5, "a", "a", 0)], "no posting")

    def test_struck_ahead_of_same_account_no_amount_and_closed(self):
        deeds = [MOVE, ("strike", 0), ("close", 9)]
        for deed in (("right", 0, 10, "a", "a", 1), ("right", 0, 10, "a", "b", 0), ("right", 0, 5, "a", "b", 1),
                     ("right", 0, 5, "a", "a", 0), ("strike", 0)):
            self.assert_last(deeds + [deed], "struck")

    def test_same_account_ahead_of_no_amount_and_closed(self):
        for deed in (("move", 10, "a", "a", 0), ("move", 5, "a", "a", 1), ("move", 5, "a", "a", -4)):
            self.assert_last([("close", 9), deed], "same account")
        for deed in (("right", 0, 10, "a", "a", 0), ("right", 0, 4, "a", "a", 1), ("right", 0, 4, "a", "a", 0)):
            self.assert_last([("move", 10, "a", "b", 1), ("close", 9), deed], "same account")
            self.assert_last([MOVE, ("close", 9), deed], "same account")

    def test_no_amount_ahead_of_closed(self):
        self.assert_last([("close", 9), ("move", 5, "a", "b", 0)], "no amount")
        self.assert_last([MOVE, ("close", 9), ("right", 0, 10, "a", "b", 0)], "no amount")
        self.assert_last([MOVE, ("close", 4), ("right", 0, 4, "a", "b", -1)], "no amount")

    def test_no_days_ahead_of_not_yet(self):
        for hour in (-1, 2, HUGE):
            self.assert_last([MOVE, ("sheet", "till", 6, 5, hour)], "no days")


class HourTest(DayTest):
    def test_each_deed_that_changes_the_book_raises_the_hour_by_one(self):
        deeds = [MOVE, ("right", 0, 6, "a", "b", 1), MOVE, ("strike", 1), ("close", 3), ("right", 0, 6, "a", "b", 1)]
        for count in range(len(deeds) + 1):
            self.assertEqual(self.hour_behind(deeds[:count]), count)

    def test_a_deed_that_asks_leaves_the_hour(self):
        for deed in (("balance", "till", 5, 1), ("sheet", "till", 4, 6, 1), ("news", "till", 5, 0, 1)):
            self.assertEqual(self.hour_behind([MOVE, deed, deed]), 1)
            self.assertEqual(answers([MOVE, deed, ("strike", 0)])[-1], 2)

    def test_a_refused_deed_leaves_the_hour_and_the_book(self):
        told = [MOVE, ("move", 9, "till", "bank", 1), ("move", 9, "till", "bank", 1), ("strike", 2), ("close", 5)]
        refused = [("move", 9, "a", "a", 1), ("move", 9, "a", "b", 0), ("move", 5, "a", "b", 1),
                   ("right", 3, 9, "a", "b", 1), ("right", -1, 9, "a", "b", 1), ("right", 2, 9, "a", "b", 1),
                   ("right", 1, 9, "a", "a", 1), ("right", 1, 9, "a", "b", 0), ("right", 1, 5, "a", "b", 1),
                   ("right", 0, 9, "a", "b", 1), ("strike", 3), ("strike", -1), ("strike", 2), ("strike", 0),
                   ("close", 5), ("close", -7), ("sheet", "a", 6, 5, 0), ("balance", "a", 5, 6),
                   ("sheet", "a", 5, 6, -1), ("news", "a", 5, 0, 6)]
        for deed in refused:
            with self.subTest(deed=deed):
                self.assertIs(type(answers(told + [deed])[-1]), str)
                self.assertEqual(self.hour_behind(told + [deed]), 5)
                for number in range(-1, 5):
                    self.assertEqual(history(told + [deed], number), history(told, number))
                self.assertEqual(answers(told + [deed, ("move", 6, "a", "b", 1)])[-1], 3)
                self.assertEqual(answers(told + [deed, ("close", 6)])[-1], 6)


class BalancesTest(DayTest):
    TOLD = [("move", 5, "till", "", 30), ("move", 4, "bank", "shop", 7), ("right", 0, 6, "till", "bank", 7),
            ("strike", 1), ("move", 5, "Bank", "till", 7)]

    def assert_balances(self, deeds, day, hour, expected):
        with self.subTest(deeds=deeds, day=day, hour=hour):
            before = copy.deepcopy(deeds)
            found = balances(deeds, day, hour)
            self.assertEqual(found, expected)
            self.assertIs(type(found), list)
            for pair in found:
                self.assertEqual([type(pair), type(pair[0]), type(pair[1])], [tuple, str, int])
            self.assertEqual(sum(pair[1] for pair in found), 0)
            self.assertEqual(deeds, before)

    def test_no_deeds(self):
        self.assert_balances([], 5, 0, [])

    def test_at_each_hour(self):
        expected = [
            [],
            [("", 30), ("till", -30)],
            [("", 30), ("bank", -7), ("shop", 7), ("till", -30)],
            [("shop", 7), ("till", -7)],
            [("bank", 7), ("till", -7)],
            [("Bank", -7), ("bank", 7)],
        ]
        for hour, pairs in enumerate(expected):
            self.assert_balances(self.TOLD, 6, hour, pairs)

    def test_at_each_day(self):
        self.assert_balances(self.TOLD, 3, 3, [])
        self.assert_balances(self.TOLD, 4, 3, [("bank", -7), ("shop", 7)])
        self.assert_balances(self.TOLD, 5, 3, [("bank", -7), ("shop", 7)])
        self.assert_balances(self.TOLD, 6, 3, [("shop", 7), ("till", -7)])
        self.assert_balances(self.TOLD, 5, 5, [("Bank", -7), ("till", 7)])
        self.assert_balances(self.TOLD, -HUGE, 5, [])
        self.assert_balances(self.TOLD, HUGE, 5, [("Bank", -7), ("bank", 7)])

    def test_balances_of_nought_are_left_out(self):
        self.assert_balances([("move", 5, "a", "b", 3), ("move", 6, "b", "a", 3)], 6, 2, [])
        self.assert_balances([("move", 5, "a", "b", 3), ("move", 5, "b", "c", 3)], 5, 2, [("a", -3), ("c", 3)])
        self.assert_balances([("move", 5, "a", "b", 3), ("strike", 0)], 5, 2, [])

    def test_the_order_of_names(self):
        names = ["", " ", "B", "a", "aa", "b", "\u00e4"]
        deeds = [("move", 1, "bank", name, 1) for name in reversed(names)]
        expected = [("", 1), (" ", 1), ("B", 1), ("a", 1), ("aa", 1), ("b", 1), ("bank", -7), ("\u00e4", 1)]
        self.assert_balances(deeds, 1, 7, expected)

    def test_asking_and_refused_deeds_count_for_nothing(self):
        deeds = [("move", 5, "a", "a", 3), MOVE, ("balance", "till", 5, 1), ("strike", 7), ("move", 5, "a", "b", 0)]
        self.assert_balances(deeds, 5, 0, [])
        self.assert_balances(deeds, 5, 1, [("bank", 30), ("till", -30)])


class HistoryTest(DayTest):
    def assert_history(self, deeds, number, expected):
        with self.subTest(deeds=deeds, number=number):
            before = copy.deepcopy(deeds)
            found = history(deeds, number)
            self.assertEqual(found, expected)
            self.assertIs(type(found), list)
            for version in found:
                self.assertIs(type(version), tuple)
                self.assertIn(type(version[1]), (tuple, type(None)))
            self.assertEqual(deeds, before)

    def test_a_posting_told(self):
        self.assert_history([MOVE], 0, [(1, (5, "till", "bank", 30))])
        self.assert_history([("close", 1), MOVE, ("move", -5, "", "a", 1), ("move", 7, "", "a", 1)], 1,
                            [(3, (7, "", "a", 1))])

    def test_a_posting_put_right_and_struck(self):
        deeds = [MOVE, ("move", 9, "a", "b", 1), ("right", 0, 6, "bank", "till", 31), ("close", 2),
                 ("right", 0, 6, "bank", "till", 31), ("strike", 0)]
        versions = [(1, (5, "till", "bank", 30)), (3, (6, "bank", "till", 31)), (5, (6, "bank", "till", 31)), (6, None)]
        self.assert_history(deeds, 0, versions)
        self.assert_history(deeds[:-1], 0, versions[:-1])
        self.assert_history(deeds, 1, [(2, (9, "a", "b", 1))])

    def test_a_posting_struck_at_once(self):
        self.assert_history([MOVE, ("strike", 0)], 0, [(1, (5, "till", "bank", 30)), (2, None)])

    def test_a_number_that_was_not_told(self):
        for number in (0, 1, -1, HUGE, -HUGE):
            self.assert_history([], number, [])
            self.assert_history([("move", 5, "a", "a", 1), ("close", 5), ("move", 5, "a", "b", 1)], number, [])
        for number in (1, 2, HUGE, -1, -2, -HUGE):
            self.assert_history([MOVE], number, [])

    def test_refused_deeds_leave_no_version(self):
        deeds = [MOVE, ("right", 0, 5, "a", "a", 1), ("right", 0, 5, "a", "b", 0), ("close", 4),
                 ("right", 0, 4, "a", "b", 1), ("strike", 0), ("strike", 0), ("right", 0, 6, "a", "b", 1)]
        self.assert_history(deeds, 0, [(1, (5, "till", "bank", 30)), (3, None)])
        self.assert_history([MOVE, ("close", 5), ("strike", 0), ("right", 0, 6, "a", "b", 1)], 0,
                            [(1, (5, "till", "bank", 30))])


if __name__ == "__main__":
    unittest.main()
