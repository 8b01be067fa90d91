"""Point [14]: an error class for each refusal, with the text that it is answered with."""

import unittest

from cornring.errors import NoOrder, NoPrice, NoSacks, Nobody, Refusal, TooFew, TooPoor

ANSWERS = [
    (Nobody, "nobody"),
    (NoOrder, "no order"),
    (NoSacks, "no sacks"),
    (NoPrice, "no price"),
    (TooPoor, "too poor"),
    (TooFew, "too few"),
]


class Refusals(unittest.TestCase):
    def test_each_has_the_text_of_the_document(self):
        for kind, answer in ANSWERS:
            with self.subTest(answer):
                self.assertEqual(kind().answer, answer)
                self.assertEqual(str(kind()), answer)

    def test_each_can_be_taken_as_a_refusal(self):
        for kind, answer in ANSWERS:
            with self.subTest(answer):
                with self.assertRaises(Refusal) as caught:
                    raise kind()
                self.assertEqual(caught.exception.answer, answer)

    def test_none_is_taken_for_another(self):
        for kind, answer in ANSWERS:
            taken = [other for other, text in ANSWERS if isinstance(kind(), other)]
            with self.subTest(answer):
                self.assertEqual(taken, [kind])

    def test_none_is_taken_for_an_error_of_pythons_own_work(self):
        for kind, answer in ANSWERS:
            with self.subTest(answer):
                self.assertIsInstance(kind(), Exception)
                self.assertNotIsInstance(kind(), (ValueError, TypeError, LookupError, ArithmeticError))


if __name__ == "__main__":
    unittest.main()
