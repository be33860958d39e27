import unittest

from fewcounters import errors

PLAIN = ["NoWeb", "NoRun", "NoCounts", "NoChoice", "NoGuess", "NoMarks", "NoLoose", "NoWay", "NoChain",
         "NoAnswer", "NoPlan", "NoLog", "NoRow", "NoName"]
WITH_WORD = ["NoText", "NoProgram"]
WITH_PLACE = ["NoCode"]
ALL = PLAIN + WITH_WORD + WITH_PLACE


def made(name):
    return getattr(errors, name)("told") if name in PLAIN else getattr(errors, name)(3)


class Errors(unittest.TestCase):
    def test_count_error_stands_straight_under_value_error(self):
        self.assertEqual(errors.CountError.__bases__, (ValueError,))

    def test_each_stands_straight_under_count_error(self):
        for name in ALL:
            with self.subTest(name):
                self.assertEqual(getattr(errors, name).__bases__, (errors.CountError,))
                self.assertEqual(getattr(errors, name).__name__, name)

    def test_each_is_caught_by_count_error_and_by_value_error(self):
        for name in ALL:
            for base in (errors.CountError, ValueError):
                with self.subTest(name=name, base=base):
                    with self.assertRaises(base):
                        raise made(name)

    def test_none_is_caught_by_another_one(self):
        for name in ALL:
            for other in ALL:
                if name != other:
                    with self.subTest(name=name, other=other):
                        self.assertNotIsInstance(made(name), getattr(errors, other))

    def test_none_is_missing_and_none_too_many(self):
        there = [name for name, value in vars(errors).items()
                 if isinstance(value, type) and issubclass(value, errors.CountError)]
        self.assertEqual(sorted(there), sorted(ALL + ["CountError"]))

    def test_word(self):
        for name in WITH_WORD:
            for word in (0, 7, 10 ** 29):
                with self.subTest(name=name, word=word):
                    with self.assertRaises(errors.CountError) as caught:
                        raise getattr(errors, name)(word)
                    self.assertEqual(caught.exception.word, word)

    def test_place(self):
        for place in (0, 7, 10 ** 29):
            with self.assertRaises(errors.CountError) as caught:
                raise errors.NoCode(place)
            self.assertEqual(caught.exception.place, place)

    def test_each_object_keeps_its_own_value(self):
        one = errors.NoText(1)
        other = errors.NoText(2)
        self.assertEqual((one.word, other.word), (1, 2))


if __name__ == "__main__":
    unittest.main()
