import unittest

from restlots import errors

PLAIN = ["BadNumber", "BadStretch", "BadModulus", "BadPlace", "BadRests", "TooGreat", "TooMany", "Nothing"]
WITH_INDEX = ["BadBars", "BadModuli", "BadSeen"]


class ErrorsTest(unittest.TestCase):

    def test_base_is_a_value_error(self):
        self.assertEqual(errors.RestError.__bases__, (ValueError,))

    def test_all_others_are_direct_subclasses(self):
        for name in PLAIN + WITH_INDEX + ["BadLine"]:
            self.assertEqual(getattr(errors, name).__bases__, (errors.RestError,), name)

    def test_plain_errors_need_no_fields(self):
        for name in PLAIN:
            with self.assertRaises(errors.RestError):
                raise getattr(errors, name)()

    def test_index(self):
        for name in WITH_INDEX:
            for index in (None, 0, 5):
                self.assertEqual(getattr(errors, name)(index).index, index)
                self.assertEqual(getattr(errors, name)(index=index).index, index)

    def test_line_and_word(self):
        error = errors.BadLine(2, 5)
        self.assertEqual((error.line, error.word), (2, 5))
        error = errors.BadLine(line=1, word=4)
        self.assertEqual((error.line, error.word), (1, 4))


if __name__ == "__main__":
    unittest.main()
