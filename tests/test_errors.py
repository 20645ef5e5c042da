"""The refusals of point [12]: one class for each, with the document's words."""

import unittest

from twicetold import errors

WORDS = {
    "NoPosting": "no posting",
    "Struck": "struck",
    "SameAccount": "same account",
    "NoAmount": "no amount",
    "Closed": "closed",
    "NoDays": "no days",
    "NotYet": "not yet",
}


class RefusalsTest(unittest.TestCase):
    def test_each_refusal_has_the_documents_words(self):
        for name, words in WORDS.items():
            with self.subTest(name=name):
                error = getattr(errors, name)()
                self.assertEqual(error.words, words)
                self.assertEqual(str(error), words)

    def test_each_refusal_can_be_taken_as_refused(self):
        for name, words in WORDS.items():
            with self.subTest(name=name):
                with self.assertRaises(errors.Refused) as taken:
                    raise getattr(errors, name)()
                self.assertEqual(taken.exception.words, words)

    def test_no_refusal_is_taken_as_another_one(self):
        for name in WORDS:
            for other in WORDS:
                with self.subTest(name=name, other=other):
                    error = getattr(errors, name)()
                    self.assertEqual(isinstance(error, getattr(errors, other)), name == other)

    def test_no_refusal_is_taken_as_an_error_of_pythons_own(self):
        for name in WORDS:
            with self.subTest(name=name):
                error = getattr(errors, name)()
                self.assertNotIsInstance(error, (ValueError, LookupError, ArithmeticError, TypeError))


if __name__ == "__main__":
    unittest.main()
