import unittest

from othersum import errors
from othersum.errors import NoShare, NoText, SumError

PLAIN = ["NoRatio", "NoBook", "NoMark", "NoHouse", "NoTable", "NoWeights", "NoLead", "TooGreat", "NoRow", "NoName",
         "NoBack"]
ALL = PLAIN + ["NoShare", "NoText"]


class Errors(unittest.TestCase):
    def test_the_refusal_of_all_is_a_value_error(self):
        self.assertTrue(issubclass(SumError, ValueError))
        with self.assertRaises(ValueError):
            raise SumError("a refusal")

    def test_each_class_is_a_sum_error_and_none_of_the_others(self):
        classes = [getattr(errors, name) for name in ALL]
        for one in classes:
            self.assertTrue(issubclass(one, SumError), one)
            self.assertTrue(issubclass(one, ValueError), one)
            self.assertNotEqual(one, SumError)
            under = [other for other in classes if issubclass(one, other)]
            self.assertEqual(under, [one])

    def test_plain_ones_are_raised_with_and_without_words(self):
        for name in PLAIN:
            kind = getattr(errors, name)
            for made in (kind(), kind("words")):
                with self.assertRaises(SumError) as caught:
                    raise made
                self.assertEqual(type(caught.exception), kind)

    def test_no_share_has_part_and_house(self):
        for part, house in ((2, 1), (0, 0), (None, 5)):
            with self.assertRaises(SumError) as caught:
                raise NoShare(part, house)
            self.assertEqual((caught.exception.part, caught.exception.house), (part, house))

    def test_no_text_has_line(self):
        for line in (0, 7):
            with self.assertRaises(SumError) as caught:
                raise NoText(line)
            self.assertEqual(caught.exception.line, line)

    def test_fields_are_each_objects_own(self):
        one = NoShare(1, 2)
        other = NoShare(None, 4)
        self.assertEqual((one.part, one.house, other.part, other.house), (1, 2, None, 4))
        first = NoText(3)
        second = NoText(0)
        self.assertEqual((first.line, second.line), (3, 0))

    def test_fields_are_needed(self):
        for call in (NoShare, NoText, lambda: NoShare(1)):
            with self.assertRaises(TypeError):
                call()


if __name__ == "__main__":
    unittest.main()
