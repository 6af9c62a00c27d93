"""Points [54] and [55]: letters on their way, delivered, dropped and doubled, and a path that is down."""

import unittest

from spindlegate.paths import Path

LETTERS = [("connect", 0, number) for number in range(1, 6)]
# Both directions; the second one is that to the host.
DIRECTIONS = (False, True)


def path_with(letters, to_host):
    path = Path()
    for letter in letters:
        path.send(letter, to_host)
    return path


class PathTest(unittest.TestCase):
    def test_a_new_path(self):
        path = Path()
        self.assertIs(path.up, True)
        for to_host in DIRECTIONS:
            self.assertEqual(path.letters(to_host), [])

    def test_letters_stand_in_the_order_in_which_they_were_sent(self):
        for to_host in DIRECTIONS:
            path = path_with(LETTERS, to_host)
            self.assertEqual(path.letters(to_host), LETTERS)
            self.assertEqual(path.letters(not to_host), [])

    def test_the_directions_have_nothing_to_do_with_each_other(self):
        path = path_with(LETTERS[:2], False)
        path.send(LETTERS[2], True)
        self.assertEqual((path.letters(False), path.letters(True)), (LETTERS[:2], LETTERS[2:3]))
        self.assertEqual(path.deliver(0, True), LETTERS[2])
        self.assertIsNone(path.deliver(0, True))
        self.assertFalse(path.drop(0, True))
        self.assertFalse(path.double(0, True))
        self.assertEqual((path.letters(False), path.letters(True)), (LETTERS[:2], []))

    def test_paths_have_nothing_to_do_with_each_other(self):
        path = path_with(LETTERS, True)
        self.assertEqual(Path().letters(True), [])
        path.set_up(False)
        self.assertIs(Path().up, True)

    def test_any_letter_is_delivered_next(self):
        for to_host in DIRECTIONS:
            for index in range(5):
                path = path_with(LETTERS, to_host)
                self.assertEqual(path.deliver(index, to_host), LETTERS[index])
                self.assertEqual(path.letters(to_host), LETTERS[:index] + LETTERS[index + 1:])

    def test_the_index_is_taken_modulo_the_number_of_letters(self):
        for to_host in DIRECTIONS:
            for index in (5, 7, 99, 1000002, -1, -7):
                left = [letter for letter in LETTERS if letter != LETTERS[index % 5]]
                path = path_with(LETTERS, to_host)
                self.assertEqual(path.deliver(index, to_host), LETTERS[index % 5])
                self.assertEqual(path.letters(to_host), left)
                path = path_with(LETTERS, to_host)
                self.assertIs(path.drop(index, to_host), True)
                self.assertEqual(path.letters(to_host), left)
                path = path_with(LETTERS, to_host)
                self.assertIs(path.double(index, to_host), True)
                self.assertEqual(path.letters(to_host), LETTERS + [LETTERS[index % 5]])

    def test_the_number_of_letters_is_the_present_one(self):
        path = path_with(LETTERS, True)
        self.assertEqual([path.deliver(4, True) for _ in range(6)],
                         [LETTERS[4], LETTERS[0], LETTERS[2], LETTERS[1], LETTERS[3], None])

    def test_no_letter(self):
        for to_host in DIRECTIONS:
            path = Path()
            for index in (0, 1, 7):
                self.assertIsNone(path.deliver(index, to_host))
                self.assertIs(path.drop(index, to_host), False)
                self.assertIs(path.double(index, to_host), False)
            self.assertEqual(path.letters(to_host), [])

    def test_equal_letters_are_different_ones(self):
        for to_host in DIRECTIONS:
            path = path_with([LETTERS[0], LETTERS[1], LETTERS[0]], to_host)
            path.double(0, to_host)
            self.assertEqual(path.letters(to_host), [LETTERS[0], LETTERS[1], LETTERS[0], LETTERS[0]])
            path.deliver(2, to_host)
            self.assertEqual(path.letters(to_host), [LETTERS[0], LETTERS[1], LETTERS[0]])
            path.drop(0, to_host)
            self.assertEqual(path.letters(to_host), [LETTERS[1], LETTERS[0]])

    def test_a_path_that_is_down(self):
        for to_host in DIRECTIONS:
            path = path_with(LETTERS[:2], to_host)
            path.set_up(False)
            self.assertIs(path.up, False)
            self.assertIsNone(path.deliver(0, to_host))
            self.assertEqual(path.letters(to_host), LETTERS[:2])
            path.send(LETTERS[2], to_host)
            self.assertIs(path.double(0, to_host), True)
            self.assertIs(path.drop(1, to_host), True)
            self.assertIsNone(path.deliver(0, to_host))
            self.assertEqual(path.letters(to_host), [LETTERS[0], LETTERS[2], LETTERS[0]])
            path.set_up(True)
            self.assertIs(path.up, True)
            self.assertEqual(path.deliver(1, to_host), LETTERS[2])

    def test_a_returned_list_is_not_changed_later(self):
        for to_host in DIRECTIONS:
            path = path_with(LETTERS, to_host)
            before = path.letters(to_host)
            path.send(LETTERS[0], to_host)
            path.double(1, to_host)
            path.deliver(0, to_host)
            path.drop(0, to_host)
            self.assertEqual(before, LETTERS)
            before.clear()
            self.assertEqual(len(path.letters(to_host)), 5)


if __name__ == "__main__":
    unittest.main()
