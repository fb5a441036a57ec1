from helpers import KeptCase
from keptbase.errors import InvalidWord
from keptbase.spantext import MOST_DIGITS, content_text, is_number_text, read_content

NUMBERS = [0, 1, -1, 7, 10, -10, 99, 10 ** 12, -10 ** 12, 10 ** 59, -(10 ** 60 - 1)]
UNREAD = ["", "-", "-0", "+1", "007", "00", "-01", " 1", "1 ", "1\n", "\n1", "1_0", "1.0", "1e3", "0x1", "--1",
          "- 1", "1-", "None", "NONE", "none ", "nothing", "..", "1..2", "\u0661", "\u00b2", "1\u0660", "\uff11"]


class PointNine(KeptCase):
    def test_most_digits(self):
        self.assertEqual(MOST_DIGITS, 60)

    def test_written_integers_are_read(self):
        for number in NUMBERS:
            text = content_text(number)
            self.assertEqual(text, str(number))
            self.assert_is(True, is_number_text(text))
            self.assertEqual(read_content(text), number)

    def test_none(self):
        self.assertEqual(content_text(None), "none")
        self.assertIsNone(read_content("none"))
        self.assert_is(False, is_number_text("none"))

    def test_other_strings_are_not_read(self):
        for word in UNREAD:
            self.assert_is(False, is_number_text(word))
            self.assert_error(InvalidWord, {"word": word}, read_content, word)

    def test_at_most_sixty_digits(self):
        for sign in ("", "-"):
            self.assert_is(True, is_number_text(sign + "9" * 60))
            self.assertEqual(read_content(sign + "9" * 60), int(sign + "9" * 60))
            for many in (61, 5000):
                word = sign + "1" * many
                self.assert_is(False, is_number_text(word))
                self.assert_error(InvalidWord, {"word": word}, read_content, word)
