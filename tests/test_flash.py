"""Points [3] to [7]: the flash, its power, the cuts, the image."""

import copy
import unittest
from unittest.mock import ANY

from samples import NO_INTEGERS, expect_power_off, refuses

from spindlegate.errors import NotValid, PowerOff
from spindlegate.flash import MAX_BLOCKS, MIN_BLOCKS, PAGES, TORN, Flash, flash_from

NEW = [None] * 8


def pages_of(flash, block):
    return flash.image()[block][1]


def cut_program(choice):
    """A flash that was cut while the page 1 of block 0 was programmed."""
    flash = Flash(8)
    flash.fail_after(1)
    flash.program(0, 0, (1,))
    expect_power_off(flash.program, 0, 1, (2,))
    flash.cut(choice)
    return flash


def cut_erase(choice):
    """A flash that was cut while block 2, with one record, was erased for the second time."""
    flash = Flash(8)
    flash.erase(2)
    flash.program(2, 0, (1,))
    flash.fail_after(0)
    expect_power_off(flash.erase, 2)
    flash.cut(choice)
    return flash


class NewFlashTest(unittest.TestCase):
    def test_the_constants(self):
        self.assertEqual((PAGES, MIN_BLOCKS, MAX_BLOCKS, TORN), (8, 8, 24, "torn"))

    def test_flashes_of_8_and_of_24_blocks(self):
        for blocks in (8, 9, 24):
            flash = Flash(blocks)
            self.assertEqual(flash.blocks, blocks)
            self.assertEqual(flash.image(), [(0, NEW)] * blocks)
            self.assertIsNone(flash.read(blocks - 1, 7))
            self.assertEqual(flash.wear(blocks - 1), 0)
            self.assertTrue(refuses(flash.wear, blocks))

    def test_other_numbers_of_blocks_are_refused(self):
        for blocks in (7, 25, 0, -8, *NO_INTEGERS, 8.0, "8", [8]):
            with self.assertRaises(NotValid):
                Flash(blocks)

    def test_a_new_flash_has_its_power_on(self):
        Flash(8).program(0, 0, (1,))


class ProgramTest(unittest.TestCase):
    def test_pages_are_programmed_in_their_order(self):
        flash = Flash(8)
        for page in range(8):
            flash.program(3, page, (page, "x"))
        self.assertEqual(pages_of(flash, 3), [(page, "x") for page in range(8)])
        self.assertEqual(flash.read(3, 7), (7, "x"))
        self.assertEqual(pages_of(flash, 2), NEW)

    def test_an_empty_tuple_can_be_programmed(self):
        flash = Flash(8)
        flash.program(0, 0, ())
        self.assertEqual(flash.read(0, 0), ())
        flash.program(0, 1, ())
        self.assertTrue(refuses(flash.program, 0, 1, ()))

    def test_only_the_first_erased_page_can_be_programmed(self):
        flash = Flash(8)
        flash.program(0, 0, (1,))
        before = flash.image()
        for page in (0, 2, 3, 7):
            self.assertTrue(refuses(flash.program, 0, page, (2,)))
        self.assertEqual(flash.image(), before)
        flash.program(0, 1, (2,))

    def test_a_full_block_takes_no_more(self):
        flash = Flash(8)
        for page in range(8):
            flash.program(0, page, (page,))
        for page in range(9):
            self.assertTrue(refuses(flash.program, 0, page, (2,)))

    def test_only_tuples_are_programmed(self):
        flash = Flash(8)
        for record in (None, TORN, [1], 1, {}, "x"):
            self.assertTrue(refuses(flash.program, 0, 0, record))
        self.assertEqual(pages_of(flash, 0), NEW)

    def test_blocks_and_pages_that_do_not_exist(self):
        flash = Flash(8)
        for wrong in (-1, 8, *NO_INTEGERS):
            self.assertTrue(refuses(flash.read, wrong, 0))
            self.assertTrue(refuses(flash.read, 0, wrong))
            self.assertTrue(refuses(flash.program, wrong, 0, (1,)))
            self.assertTrue(refuses(flash.program, 0, wrong, (1,)))
            self.assertTrue(refuses(flash.erase, wrong))
            self.assertTrue(refuses(flash.wear, wrong))
        self.assertEqual(flash.image(), [(0, NEW)] * 8)


class EraseTest(unittest.TestCase):
    def test_erasing_makes_all_pages_erased_and_adds_to_the_wear(self):
        flash = Flash(8)
        for page in range(3):
            flash.program(1, page, (page,))
        flash.erase(1)
        self.assertEqual(flash.image(), [(0, NEW), (1, NEW), *[(0, NEW)] * 6])
        flash.program(1, 0, (5,))
        self.assertEqual(flash.read(1, 0), (5,))

    def test_a_block_that_was_erased_before_wears_too(self):
        flash = Flash(8)
        for times in range(1, 4):
            flash.erase(7)
            self.assertEqual(flash.wear(7), times)
        self.assertEqual(flash.wear(6), 0)

    def test_programming_does_not_wear(self):
        flash = Flash(8)
        flash.program(0, 0, (1,))
        self.assertEqual(flash.wear(0), 0)

    def test_nothing_else_makes_a_page_erased(self):
        flash = Flash(8)
        flash.program(0, 0, (1,))
        flash.program(1, 0, (2,))
        flash.erase(1)
        refuses(flash.program, 0, 0, (3,))
        flash.fail_after(0)
        expect_power_off(flash.program, 0, 1, (4,))
        flash.cut(2)
        self.assertEqual(flash.read(0, 0), (1,))
        flash.fail_after(0)
        expect_power_off(flash.erase, 2)
        for choice in (0, 1, 2):
            flash.cut(choice)
        self.assertEqual(pages_of(flash, 0), [(1,), TORN, *[None] * 6])
        flash.erase(0)
        self.assertEqual(pages_of(flash, 0), NEW)


class PowerTest(unittest.TestCase):
    def test_the_power_fails_in_the_operation_with_the_number(self):
        for count in (0, 1, 5):
            flash = Flash(8)
            flash.fail_after(count)
            for page in range(count):
                flash.program(0, page, (page,))
            with self.assertRaises(PowerOff):
                flash.program(0, count, (count,))
            flash.cut(0)
            self.assertEqual(pages_of(flash, 0), [(page,) for page in range(count)] + [None] * (8 - count))

    def test_erases_count_too(self):
        flash = Flash(8)
        flash.fail_after(2)
        flash.erase(0)
        flash.program(0, 0, (1,))
        with self.assertRaises(PowerOff):
            flash.erase(0)

    def test_reading_does_not_count(self):
        flash = Flash(8)
        flash.fail_after(1)
        for _ in range(5):
            flash.read(0, 0)
            flash.wear(0)
            flash.image()
        flash.program(0, 0, (1,))
        self.assertEqual(flash.read(0, 0), (1,))

    def test_calls_that_are_not_valid_do_not_count(self):
        flash = Flash(8)
        flash.fail_after(1)
        for _ in range(5):
            self.assertTrue(refuses(flash.program, 0, 1, (1,)))
            self.assertTrue(refuses(flash.program, 0, 0, [1]))
            self.assertTrue(refuses(flash.erase, 8))
        flash.program(0, 0, (1,))
        expect_power_off(flash.program, 0, 1, (1,))

    def test_everything_raises_until_a_cut(self):
        flash = Flash(8)
        flash.fail_after(0)
        expect_power_off(flash.erase, 0)
        for _ in range(3):
            expect_power_off(flash.read, 0, 0)
            expect_power_off(flash.program, 0, 0, (1,))
            expect_power_off(flash.erase, 3)
        flash.cut(0)
        self.assertEqual(flash.image(), [(0, NEW)] * 8)
        flash.program(0, 0, (1,))

    def test_not_valid_is_raised_ahead_of_power_off(self):
        flash = Flash(8)
        flash.fail_after(0)
        expect_power_off(flash.erase, 0)
        self.assertTrue(refuses(flash.read, 0, 8))
        self.assertTrue(refuses(flash.program, 8, 0, (1,)))
        self.assertTrue(refuses(flash.program, 0, 0, [1]))
        self.assertTrue(refuses(flash.program, 0, 1, (1,)))
        self.assertTrue(refuses(flash.erase, -1))
        self.assertTrue(refuses(flash.fail_after, -1))
        self.assertTrue(refuses(flash.wear, 8))

    def test_the_wear_and_the_image_are_told_while_the_power_is_off(self):
        flash = Flash(8)
        flash.erase(0)
        flash.fail_after(0)
        expect_power_off(flash.erase, 0)
        self.assertEqual(flash.wear(0), 1)
        self.assertEqual(flash.image(), [(1, NEW), *[(0, NEW)] * 7])

    def test_a_later_fail_after_replaces_the_one_before(self):
        flash = Flash(8)
        flash.fail_after(0)
        flash.fail_after(2)
        flash.erase(0)
        flash.fail_after(1)
        flash.erase(0)
        expect_power_off(flash.erase, 0)
        flash.cut(0)
        flash.fail_after(0)
        flash.fail_after(None)
        for _ in range(5):
            flash.erase(0)

    def test_fail_after_while_the_power_is_off_does_not_bring_it_back(self):
        for count in (None, 0, 5):
            flash = Flash(8)
            flash.fail_after(0)
            expect_power_off(flash.program, 0, 0, (1,))
            flash.fail_after(count)
            expect_power_off(flash.read, 0, 0)
            expect_power_off(flash.erase, 0)
            flash.cut(1)
            self.assertEqual(flash.read(0, 0), (1,))
            for _ in range(8):
                flash.erase(1)

    def test_the_bounds_of_fail_after(self):
        flash = Flash(8)
        flash.fail_after(100000)
        flash.fail_after(1)
        for count in (-1, 100001, True, False, "1", 1.0, ()):
            self.assertTrue(refuses(flash.fail_after, count))
        flash.erase(0)
        expect_power_off(flash.erase, 0)


class CutTest(unittest.TestCase):
    def test_a_program_that_was_not_done(self):
        flash = cut_program(0)
        self.assertEqual(pages_of(flash, 0), [(1,), *[None] * 7])
        flash.program(0, 1, (3,))

    def test_a_program_that_was_done(self):
        flash = cut_program(1)
        self.assertEqual(pages_of(flash, 0), [(1,), (2,), *[None] * 6])
        flash.program(0, 2, (3,))

    def test_a_program_that_is_torn(self):
        flash = cut_program(2)
        self.assertEqual(pages_of(flash, 0), [(1,), TORN, *[None] * 6])
        self.assertEqual(flash.wear(0), 0)
        self.assertTrue(refuses(flash.program, 0, 1, (3,)))
        flash.program(0, 2, (3,))

    def test_an_erase_that_was_not_done(self):
        flash = cut_erase(0)
        self.assertEqual(flash.image()[2], (1, [(1,), *[None] * 7]))

    def test_an_erase_that_was_done(self):
        flash = cut_erase(1)
        self.assertEqual(flash.image()[2], (2, NEW))
        flash.program(2, 0, (3,))

    def test_an_erase_that_is_torn(self):
        flash = cut_erase(2)
        self.assertEqual(flash.image()[2], (2, [TORN] * 8))
        for page in range(8):
            self.assertTrue(refuses(flash.program, 2, page, (3,)))
        flash.erase(2)
        self.assertEqual(flash.image()[2], (3, NEW))

    def test_only_the_operation_that_was_cut_is_changed(self):
        for choice in (0, 1, 2):
            for flash in (cut_program(choice), cut_erase(choice)):
                others = [entry for block, entry in enumerate(flash.image()) if block not in (0, 2)]
                self.assertEqual(others, [(0, NEW)] * 6)

    def test_operations_after_the_power_failed_are_not_the_one_that_was_cut(self):
        flash = Flash(8)
        flash.fail_after(0)
        expect_power_off(flash.program, 0, 0, (1,))
        expect_power_off(flash.program, 0, 0, (2,))
        expect_power_off(flash.erase, 1)
        flash.cut(1)
        self.assertEqual(flash.image(), [(0, [(1,), *[None] * 7]), *[(0, NEW)] * 7])

    def test_a_cut_without_an_operation_changes_no_page(self):
        for choice in (0, 1, 2):
            flash = Flash(8)
            flash.program(0, 0, (1,))
            flash.erase(1)
            before = flash.image()
            flash.cut(choice)
            self.assertEqual(flash.image(), before)
            flash.program(0, 1, (2,))

    def test_a_second_cut_has_no_effect(self):
        flash = cut_program(0)
        flash.cut(1)
        flash.cut(2)
        self.assertEqual(pages_of(flash, 0), [(1,), *[None] * 7])

    def test_a_cut_removes_what_fail_after_set(self):
        flash = Flash(8)
        flash.fail_after(1)
        flash.cut(0)
        for _ in range(5):
            flash.erase(0)

    def test_wrong_choices_change_nothing(self):
        flash = Flash(8)
        flash.fail_after(0)
        expect_power_off(flash.erase, 0)
        for choice in (-1, 3, *NO_INTEGERS):
            self.assertTrue(refuses(flash.cut, choice))
        expect_power_off(flash.read, 0, 0)
        flash.cut(2)
        self.assertEqual(pages_of(flash, 0), [TORN] * 8)
        flash.fail_after(0)
        self.assertTrue(refuses(flash.cut, 3))
        expect_power_off(flash.erase, 0)

    def test_the_example_of_the_document(self):
        flash = cut_program(2)
        self.assertEqual(flash.read(0, 1), TORN)
        flash.program(0, 2, (3,))


def an_image(blocks):
    return [(block, [(block,), TORN, (), *[None] * 5]) for block in range(blocks)]


def image_with(entry):
    """An image whose fourth block is this one."""
    image = an_image(8)
    image[3] = entry
    return image


class ImageTest(unittest.TestCase):
    def test_a_flash_from_an_image_has_its_blocks(self):
        for blocks in (8, 24):
            flash = flash_from(an_image(blocks))
            self.assertEqual(flash.blocks, blocks)
            self.assertEqual(flash.image(), an_image(blocks))
            self.assertEqual(flash.wear(blocks - 1), blocks - 1)
            self.assertEqual(flash.read(5, 0), (5,))
            flash.program(5, 3, (9,))
            self.assertEqual(flash.read(5, 3), (9,))

    def test_the_image_is_copied(self):
        image = an_image(8)
        flash = flash_from(image)
        flash.program(0, 3, (9,))
        flash.erase(1)
        self.assertEqual(image, an_image(8))
        image[2][1][0] = (7,)
        image[3] = None
        image.pop()
        self.assertEqual(flash.read(2, 0), (2,))
        self.assertEqual(flash.blocks, 8)
        self.assertEqual(flash.wear(3), 3)

    def test_an_image_that_is_refused_is_not_changed(self):
        image = image_with((0, [None, (1,), *[None] * 6]))
        before = copy.deepcopy(image)
        self.assertTrue(refuses(flash_from, image))
        self.assertEqual(image, before)

    def test_the_image_is_the_callers_own(self):
        flash = Flash(8)
        image = flash.image()
        image[0][1][0] = (1,)
        image.pop()
        self.assertEqual(flash.image(), [(0, NEW)] * 8)
        before = flash.image()
        flash.program(0, 0, (2,))
        flash.erase(1)
        self.assertEqual(before, [(0, NEW)] * 8)

    def test_flashes_from_one_image_are_apart(self):
        image = an_image(8)
        first, second = flash_from(image), flash_from(image)
        first.program(0, 3, (1,))
        first.erase(1)
        self.assertEqual(second.image(), image)

    def test_wrong_numbers_of_blocks(self):
        for blocks in (0, 7, 25):
            self.assertTrue(refuses(flash_from, an_image(blocks)))

    def test_images_that_are_no_lists(self):
        for image in (None, tuple(an_image(8)), "12345678", {}, 8, Flash(8)):
            self.assertTrue(refuses(flash_from, image))

    def test_blocks_that_are_no_pairs(self):
        for entry in (None, [0, [None] * 8], (0,), (0, [None] * 8, 0), "ab", 5, ()):
            self.assertTrue(refuses(flash_from, image_with(entry)))

    def test_wrong_wears(self):
        for wear in (-1, *NO_INTEGERS):
            self.assertTrue(refuses(flash_from, image_with((wear, [None] * 8))))
        self.assertEqual(flash_from(image_with((1000000, NEW))).wear(3), 1000000)

    def test_wrong_lists_of_pages(self):
        for pages in (None, (None,) * 8, [None] * 7, [None] * 9, [], "tornt", {}):
            self.assertTrue(refuses(flash_from, image_with((0, pages))))

    def test_wrong_pages(self):
        for page in (1, True, False, "", "Torn", "torn ", [1], {}, b"torn", 0, ANY):
            self.assertTrue(refuses(flash_from, image_with((0, [page, *[None] * 7]))))
            self.assertTrue(refuses(flash_from, image_with((0, [(1,)] * 7 + [page]))))

    def test_erased_pages_ahead_of_others(self):
        for content in ((1,), (), TORN):
            for page in range(1, 8):
                pages = [(1,)] * (page - 1) + [None, content] + [None] * (7 - page)
                self.assertEqual(len(pages), 8)
                self.assertTrue(refuses(flash_from, image_with((0, pages))))

    def test_full_blocks_and_torn_blocks_are_taken(self):
        for pages in ([(1,)] * 8, [TORN] * 8, NEW, [TORN, *[None] * 7], [()] * 8):
            self.assertEqual(flash_from(image_with((0, pages))).image()[3], (0, pages))

    def test_the_power_is_on_and_does_not_fail(self):
        off = Flash(8)
        off.fail_after(0)
        expect_power_off(off.erase, 0)
        flash = flash_from(off.image())
        for _ in range(5):
            flash.erase(0)
        self.assertEqual(flash.wear(0), 5)
        self.assertEqual(off.wear(0), 0)


if __name__ == "__main__":
    unittest.main()
