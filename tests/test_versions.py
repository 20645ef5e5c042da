"""`known`: points [4] and [5], within the bounds of [1], [2] and [3]."""

import copy
import inspect
import itertools
import unittest

from twicetold.versions import known

FIRST = (5, "till", "bank", 30)
SECOND = (6, "till", "bank", 31)
THIRD = (-7, "", "bank", 1)
HUGE = 10 ** 110 - 1


class KnownTest(unittest.TestCase):
    def test_takes_its_arguments_under_their_names(self):
        self.assertEqual(list(inspect.signature(known).parameters), ["versions", "hour"])
        self.assertEqual(known(versions=[(1, FIRST)], hour=1), FIRST)

    def test_without_a_version_nothing_is_known(self):
        for hour in (-HUGE, -1, 0, 1, HUGE):
            with self.subTest(hour=hour):
                self.assertIsNone(known([], hour))

    def test_one_version_is_known_from_its_hour_on(self):
        versions = [(3, FIRST)]
        for hour in (-HUGE, -1, 0, 1, 2):
            with self.subTest(hour=hour):
                self.assertIsNone(known(versions, hour))
        for hour in (3, 4, HUGE, HUGE * 1000):
            with self.subTest(hour=hour):
                self.assertEqual(known(versions, hour), FIRST)

    def test_the_content_told_last_by_the_hour_is_known(self):
        versions = [(2, FIRST), (5, SECOND), (6, THIRD)]
        expected = {-1: None, 0: None, 1: None, 2: FIRST, 3: FIRST, 4: FIRST, 5: SECOND, 6: THIRD, 7: THIRD,
                    HUGE: THIRD}
        for hour, content in expected.items():
            with self.subTest(hour=hour):
                self.assertEqual(known(versions, hour), content)

    def test_what_is_told_later_changes_no_earlier_hour(self):
        told = [(1, FIRST), (4, SECOND), (7, THIRD), (9, None)]
        for count in range(len(told)):
            later = told[count][0]
            for hour in range(-1, later):
                with self.subTest(count=count, hour=hour):
                    self.assertEqual(known(told[:count], hour), known(told[:count + 1], hour))

    def test_a_content_told_again_is_known(self):
        versions = [(1, FIRST), (2, FIRST), (3, SECOND), (4, FIRST)]
        self.assertEqual([known(versions, hour) for hour in range(6)],
                         [None, FIRST, FIRST, SECOND, FIRST, FIRST])

    def test_a_posting_struck_at_the_end_is_none_from_then_on(self):
        versions = [(2, FIRST), (4, SECOND), (6, None)]
        self.assertEqual([known(versions, hour) for hour in range(9)],
                         [None, None, FIRST, FIRST, SECOND, SECOND, None, None, None])
        self.assertIsNone(known(versions, HUGE))

    def test_a_posting_struck_in_the_middle_stays_struck(self):
        versions = [(2, FIRST), (4, None), (6, SECOND)]
        self.assertEqual([known(versions, hour) for hour in range(9)],
                         [None, None, FIRST, FIRST, None, None, None, None, None])
        self.assertIsNone(known(versions, HUGE))

    def test_a_version_of_hour_nought_and_one_below(self):
        versions = [(-2, FIRST), (0, SECOND)]
        self.assertEqual([known(versions, hour) for hour in (-3, -2, -1, 0, 1)],
                         [None, FIRST, FIRST, SECOND, SECOND])

    def test_hours_of_a_hundred_figures(self):
        versions = [(HUGE - 2, FIRST), (HUGE, SECOND)]
        self.assertEqual([known(versions, HUGE + step) for step in (-3, -2, -1, 0, 1)],
                         [None, FIRST, FIRST, SECOND, SECOND])

    def test_a_content_comes_back_whole(self):
        for content in ((0, "", "a", 1), (-HUGE, "a", "", HUGE), (HUGE, "A", "a", 1)):
            with self.subTest(content=content):
                self.assertEqual(known([(1, content)], 1), content)
                self.assertIs(type(known([(1, content)], 1)), tuple)

    def test_any_number_of_versions(self):
        versions = [(2 * number, (number, "a", "b", 1 + number)) for number in range(20000)]
        for number in (0, 1, 9999, 19999):
            with self.subTest(number=number):
                self.assertEqual(known(versions, 2 * number), (number, "a", "b", 1 + number))
                self.assertEqual(known(versions, 2 * number + 1), (number, "a", "b", 1 + number))
        self.assertIsNone(known(versions, -1))

    def test_every_short_history(self):
        # Told by the definition, from the end: the last version that the hour has reached.
        for length in range(4):
            for hours in itertools.combinations(range(6), length):
                for struck in (False, True):
                    told = [FIRST, SECOND, THIRD][:length]
                    if struck and told:
                        told[-1] = None
                    versions = list(zip(hours, told))
                    for hour in range(-1, 7):
                        reached = [content for since, content in versions if since <= hour]
                        with self.subTest(versions=versions, hour=hour):
                            self.assertEqual(known(versions, hour), reached[-1] if reached else None)

    def test_what_is_handed_in_stays_as_it_was(self):
        for versions in ([], [(1, FIRST)], [(1, FIRST), (3, SECOND), (5, None)], [(1, FIRST), (3, None), (5, SECOND)]):
            before = copy.deepcopy(versions)
            for hour in range(-1, 8):
                known(versions, hour)
            self.assertEqual(versions, before)


if __name__ == "__main__":
    unittest.main()
