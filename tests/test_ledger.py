"""`Ledger`: each refusal of point [12] is raised as its own error and leaves the book as it was."""

import copy
import unittest

from twicetold import errors
from twicetold.ledger import Ledger


def told_ledger():
    """A book with a posting on a closed day, one that is free and one that is struck."""
    ledger = Ledger()
    ledger.move(5, "till", "bank", 30)
    ledger.move(9, "till", "bank", 1)
    ledger.move(9, "till", "bank", 2)
    ledger.strike(2)
    ledger.close_days(5)
    return ledger


class LedgerTest(unittest.TestCase):
    def assert_refused(self, error, name, *arguments):
        with self.subTest(name=name, arguments=arguments):
            ledger = told_ledger()
            before = copy.deepcopy(vars(ledger))
            with self.assertRaises(error) as taken:
                getattr(ledger, name)(*arguments)
            self.assertIs(type(taken.exception), error)
            self.assertEqual(vars(ledger), before)

    def test_a_new_book(self):
        ledger = Ledger()
        self.assertEqual(ledger.hour, 0)
        self.assertEqual(ledger.contents_at(0), [])
        self.assertEqual(ledger.versions_of(0), [])

    def test_each_refusal_is_an_error_of_its_own(self):
        for number in (3, -1):
            self.assert_refused(errors.NoPosting, "put_right", number, 9, "a", "b", 1)
            self.assert_refused(errors.NoPosting, "strike", number)
        self.assert_refused(errors.Struck, "put_right", 2, 9, "a", "b", 1)
        self.assert_refused(errors.Struck, "strike", 2)
        self.assert_refused(errors.SameAccount, "move", 9, "a", "a", 1)
        self.assert_refused(errors.SameAccount, "put_right", 1, 9, "a", "a", 1)
        self.assert_refused(errors.NoAmount, "move", 9, "a", "b", 0)
        self.assert_refused(errors.NoAmount, "put_right", 1, 9, "a", "b", 0)
        self.assert_refused(errors.Closed, "move", 5, "a", "b", 1)
        self.assert_refused(errors.Closed, "put_right", 1, 5, "a", "b", 1)
        self.assert_refused(errors.Closed, "put_right", 0, 9, "a", "b", 1)
        self.assert_refused(errors.Closed, "strike", 0)
        self.assert_refused(errors.Closed, "close_days", 5)
        self.assert_refused(errors.NoDays, "sheet", "a", 6, 5, 0)
        for hour in (-1, 6):
            self.assert_refused(errors.NotYet, "balance", "a", 5, hour)
            self.assert_refused(errors.NotYet, "sheet", "a", 5, 6, hour)
            self.assert_refused(errors.NotYet, "news", "a", 5, hour, 0)
            self.assert_refused(errors.NotYet, "news", "a", 5, 0, hour)

    def test_questions_leave_the_book_as_it_was(self):
        ledger = told_ledger()
        before = copy.deepcopy(vars(ledger))
        ledger.balance("till", 9, 5)
        ledger.sheet("till", 1, 9, 5)
        ledger.news("till", 9, 0, 5)
        ledger.contents_at(3)
        self.assertEqual(vars(ledger), before)

    def test_versions_are_given_as_a_list_of_their_own(self):
        ledger = told_ledger()
        ledger.versions_of(1).clear()
        self.assertEqual(ledger.versions_of(1), [(2, (9, "till", "bank", 1))])

    def test_two_books_share_nothing(self):
        told_ledger()
        self.assertEqual(Ledger().contents_at(9), [])


if __name__ == "__main__":
    unittest.main()
