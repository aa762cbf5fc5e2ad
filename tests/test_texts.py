import copy
import inspect
import unittest

import samples
from rowlay.errors import BadText, BadWeb
from rowlay.texts import read, written

SQUARE = (4, [(0, 1, 3), (0, 3, 20), (1, 2, 100), (2, 3, 1)])
SQUARE_TEXT = "places 4\n0-1 3\n0-3 20\n1-2 100\n2-3 1"

BAD_TEXTS = [
    # Empty, and line ends and blanks alone.
    "", "\n", " ", "\n\n", "  \n ",
    # The first row missing, doubled, or otherwise written.
    "0-1 1", "\nplaces 2", "places", "places ", "places\n0-1 1", "places2", "place 2", "Places 2", "PLACES 2", "2",
    "2 places", "xplaces 2", "places 2 places", "places 2\nplaces 2", "places: 2", "places=2",
    "places two", "places x", "places -", "places 2x", "places a2", "places ~", "places /", "places :", "places 2.",
    # Blanks too many.
    " places 2", "places  2", "places 2 ", "places 2\n 0-1 1", "places 2\n0-1  1", "places 2\n0-1 1 ",
    "places 2\n0 -1 1",
    "places 2\n0- 1 1", "places 2 \n0-1 1", "places 2\n0-1 1 1", "places 1 2",
    # Line ends too many or missing.
    "places 2\n", "places 2\n\n", "places 2\n0-1 1\n", "places 2\n\n0-1 1", "\nplaces 2\n0-1 1",
    "places 3\n0-1 1\n\n1-2 1", "places 2 0-1 1", "places 20-1 1", "places 3\n0-1 1 1-2 1", "places 3\n0-1 11-2 1",
    "places\n2", "places 2\n0-1\n1", "places 2\n0-\n1 1",
    # Signs missing or too many.
    "places 2\n0 1 1", "places 2\n01 1", "places 2\n0-1", "places 2\n0-1 ", "places 2\n-1 1", "places 2\n0- 1",
    "places 2\n0-11", "places 2\n0-1-1", "places 2\n0--1 1", "places 2\n-0-1 1", "places 2\n0-1 -1", "places -2",
    "places -0", "places +2", "places 2\n+0-1 1", "places 2\n0-+1 1", "places 2\n0-1 +1", "places 2\n0-1 1.",
    "places 2\n0-1,1", "places 2\n(0-1 1)", "places 2\n0-1 1;", "places 2\n0_1 1", "places 2\n0-1 1_0",
    "places 2\n0-1\t1", "places\t2", "places 2\r\n0-1 1", "places 2\r", "places 2\n0-1 x", "places 2\na-b c",
    "places 2\nx",
    "places 2\n-", "places 2\n ", "places 2\n- ", "places 2\n0-1 0x1", "places 1_0", "places 0b1",
    # Noughts ahead.
    "places 00", "places 02", "places 002", "places 000", "places 2\n00-1 1", "places 2\n0-01 1", "places 2\n0-1 01",
    "places 2\n0-1 001", "places 2\n0-1 010", "places 2\n000-1 1",
    # Four figures and more.
    "places 0002", "places 1000", "places 2\n0-1 1000", "places 2\n0-1 0001", "places 2\n0000-1 1",
    "places 2\n0-0001 1",
    "places 2\n0-1 " + "1" * 5000, "places " + "8" * 5000,
    # Numbers that make no web.
    "places 9", "places 10", "places 999", "places 0\n0-1 1", "places 1\n0-1 1", "places 2\n0-2 1", "places 2\n1-0 1",
    "places 2\n0-0 1", "places 2\n0-1 0", "places 2\n0-1 101", "places 2\n0-1 999", "places 8\n0-8 1",
    "places 3\n3-4 1",
    # Ties that do not rise.
    "places 3\n0-2 1\n0-1 1", "places 3\n1-2 1\n0-1 1", "places 3\n0-1 1\n0-1 1", "places 3\n0-1 1\n0-1 2",
    "places 3\n0-1 2\n0-1 1", "places 4\n0-1 1\n1-2 1\n0-3 1",
]


class Interface(unittest.TestCase):
    def test_arguments_have_their_names(self):
        self.assertEqual(list(inspect.signature(written).parameters), ["web"])
        self.assertEqual(list(inspect.signature(read).parameters), ["text"])


class Written(samples.Refusals):
    def test_by_hand(self):
        self.assertEqual(written(SQUARE), SQUARE_TEXT)
        self.assertEqual(written((0, [])), "places 0")
        self.assertEqual(written((8, [])), "places 8")
        self.assertEqual(written((8, [(6, 7, 100)])), "places 8\n6-7 100")
        self.assertIs(type(written(SQUARE)), str)

    def test_what_is_no_web_is_refused(self):
        for web in samples.BAD_WEBS:
            self.refused(BadWeb, written, web)

    def test_nothing_handed_in_is_changed(self):
        for web in samples.webs():
            handed = copy.deepcopy(web)
            written(web)
            self.assertEqual(web, handed)


class Read(samples.Refusals):
    def test_by_hand(self):
        self.assertEqual(read(SQUARE_TEXT), SQUARE)
        self.assertEqual(read("places 0"), (0, []))
        self.assertEqual(read("places 2\n0-1 100"), (2, [(0, 1, 100)]))
        self.assertEqual(read("places 2\n0-1 10"), (2, [(0, 1, 10)]))

    def test_all_samples_written_and_read_again(self):
        for web in samples.webs() + samples.small_webs():
            self.assertEqual(read(written(web)), web)
            self.assertEqual(written(read(written(web))), written(web))

    def test_kinds_of_what_is_told(self):
        for text in ("places 0", SQUARE_TEXT):
            web = read(text)
            self.assertIs(type(web), tuple)
            self.assertEqual([type(part) for part in web], [int, list])
            for tie in web[1]:
                self.assertIs(type(tie), tuple)
                self.assertEqual([type(number) for number in tie], [int, int, int])

    def test_what_is_not_written_so(self):
        for text in BAD_TEXTS:
            with self.subTest(text=text[:40]):
                self.refused(BadText, read, text)

    def test_a_sign_put_in_left_out_or_changed(self):
        # What is read at all is just what would be written of it.
        signs = "0123456789- placesx+._\n~!"
        for at in range(len(SQUARE_TEXT) + 1):
            tries = [SQUARE_TEXT[:at] + SQUARE_TEXT[at + 1:]]
            tries += [SQUARE_TEXT[:at] + sign + SQUARE_TEXT[at:] for sign in signs]
            tries += [SQUARE_TEXT[:at] + sign + SQUARE_TEXT[at + 1:] for sign in signs]
            for text in tries:
                try:
                    web = read(text)
                except BadText:
                    continue
                self.assertEqual(written(web), text)

    def test_lists_told_are_new_ones(self):
        once = read(SQUARE_TEXT)
        once[1].clear()
        self.assertEqual(read(SQUARE_TEXT), SQUARE)


if __name__ == "__main__":
    unittest.main()
