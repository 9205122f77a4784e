"""The calls themselves: the listing's bounds and its refusals' order, and what both leave alone."""

import contextlib
import inspect
import io
import sys
import unittest

from strictvolume.volumes import file, list_of
from volume_images import (MOST, SAMPLE_DEEP, SAMPLE_TOP, TOP, answer, as_bytes, entry, file_answer, in_clusters, put,
                           sample)


class Bounds(unittest.TestCase):
    def test_most_out_of_bounds(self):
        image = sample().image()
        for most in (-1, -2147483648, MOST + 1, 2147483647):
            with self.subTest(most=most):
                self.assertEqual(list_of(most, image, as_bytes("/")), [-2])

    def test_most_at_its_bounds(self):
        image = sample().image()
        self.assertEqual(list_of(MOST, image, as_bytes("/"))[0], len(SAMPLE_TOP))
        self.assertEqual(list_of(0, image, as_bytes("/folder/inner")), [0])

    def test_most_just_enough_and_one_less(self):
        image = sample().image()
        enough = len(SAMPLE_DEEP)
        self.assertEqual(list_of(enough, image, as_bytes("/deep")), [enough] + as_bytes(SAMPLE_DEEP))
        self.assertEqual(list_of(enough - 1, image, as_bytes("/deep")), [-1])
        self.assertEqual(list_of(0, image, as_bytes("/deep")), [-1])
        self.assertEqual(list_of(1, image, as_bytes("/folder/inner")), [0])

    def test_length_of_the_path(self):
        image = sample().image()
        self.assertEqual(list_of(MOST, image, []), [-4])
        self.assertEqual(answer(image, "/." * 2048), SAMPLE_TOP)
        self.assertEqual(list_of(MOST, image, as_bytes("/" + "a" * 4095)), [-4])
        self.assertEqual(list_of(MOST, image, as_bytes("/" + "a" * 4096)), [-2])
        self.assertEqual(list_of(MOST, image, as_bytes("a" * 4097)), [-2])

    def test_length_of_the_image(self):
        self.assertEqual(list_of(MOST, [], as_bytes("/")), [-3])
        image = sample().image()
        longest = image + [0] * (MOST - len(image))
        self.assertEqual(answer(longest), SAMPLE_TOP)
        longest.append(0)
        self.assertEqual(answer(longest), -2)


class OrderOfRefusals(unittest.TestCase):
    def setUp(self):
        self.image = sample().image()
        self.wrong = [0] + self.image[1:]
        self.wrong[3] = 0

    def test_out_of_bounds_comes_first(self):
        self.assertEqual(list_of(-1, self.wrong, as_bytes("x")), [-2])
        self.assertEqual(list_of(-1, self.image, as_bytes("/hello.txt")), [-2])
        self.assertEqual(list_of(MOST, self.wrong, [0] * 4097), [-2])

    def test_a_wrong_image_comes_before_a_wrong_path(self):
        self.assertEqual(list_of(MOST, self.wrong, []), [-3])
        self.assertEqual(list_of(MOST, self.wrong, as_bytes("x")), [-3])
        self.assertEqual(list_of(0, self.wrong, as_bytes("/hello.txt")), [-3])
        self.assertEqual(list_of(MOST, [], []), [-3])

    def test_a_wrong_folder_comes_before_a_name_that_is_not_there(self):
        disk = sample()
        put(disk.blocks[16, 2], 0, 0, 1)
        self.assertEqual(answer(disk, "/deep/nothing"), -3)
        self.assertEqual(answer(disk, "/deep/a1"), -3)
        self.assertEqual(answer(disk, "/nothing/a1"), -4)

    def test_a_wrong_record_comes_before_going_on_from_a_file(self):
        disk = sample()
        put(disk.records[19], 16, 2, 2)
        self.assertEqual(answer(disk, "/hello.txt/more"), -3)
        self.assertEqual(answer(disk, "/hello.txt"), -3)

    def test_a_file_comes_before_too_many_bytes(self):
        self.assertEqual(answer(self.image, "/hello.txt", 0), -5)
        self.assertEqual(answer(self.image, "/hello.txt/more", 0), -4)
        self.assertEqual(answer(self.image, "/nothing", 0), -4)

    def test_a_wrong_record_comes_before_too_many_bytes(self):
        disk = sample()
        put(disk.records[21], 22, 0, 2)
        self.assertEqual(answer(disk, "/deep", 0), -3)
        self.assertEqual(answer(disk, "/deep", 5), -3)


class Unchangeable(list):
    """A list of which every change fails at once, also one that would be taken back."""

    def refuse(self, *anything, **more):
        raise AssertionError("what is handed in is changed")

    __setitem__ = __delitem__ = __iadd__ = __imul__ = refuse
    append = clear = extend = insert = pop = remove = reverse = sort = refuse


class LeftAlone(unittest.TestCase):
    PATHS = ("/", "/deep", "/deep/z1", "/deep/m", "/folder/inner", "/folder/note", "/hello.txt", "/nothing", "", "x")
    CALLS = (lambda image, path: list_of(MOST, image, path),
             lambda image, path: file(0, MOST, image, path),
             lambda image, path: file(700, 300, image, path),
             lambda image, path: file(-1, 300, image, path))

    def each_call(self):
        for call in self.CALLS:
            for path in self.PATHS:
                with self.subTest(call=self.CALLS.index(call), path=path):
                    yield call, as_bytes(path)

    def test_what_is_handed_in_stays(self):
        image = sample().image()
        for call, path in self.each_call():
            handed_image = list(image)
            handed_path = list(path)
            call(handed_image, handed_path)
            self.assertTrue(handed_image == image)
            self.assertTrue(handed_path == path)

    def test_what_is_handed_in_is_not_changed_for_a_while_either(self):
        image = sample().image()
        for call, path in self.each_call():
            self.assertEqual(call(Unchangeable(image), Unchangeable(path)), call(image, path))

    def test_a_second_call_answers_the_same(self):
        image = sample().image()
        for call, path in self.each_call():
            told = call(image, path)
            self.assertEqual(call(image, path), told)

    def test_nothing_is_kept_between_calls(self):
        other = sample()
        other.add_folder(TOP, [entry("other", 19)])
        image = sample().image()
        for step in range(2):
            self.assertEqual(answer(image), SAMPLE_TOP)
            self.assertEqual(file_answer(image, "/hello.txt"), b"hello")
            self.assertEqual(answer(other), "other 5\n")
            self.assertEqual(file_answer(other, "/hello.txt"), -4)
            self.assertEqual(file_answer(image, "/other"), -4)
            self.assertEqual(answer([]), -3)
            self.assertEqual(file_answer([], "/hello.txt"), -3)

    def test_an_answer_may_be_changed_without_harm(self):
        image = sample().image()
        for call, path in self.each_call():
            told = call(image, path)
            kept = list(told)
            told.append(0)
            self.assertEqual(call(image, path), kept)
        self.assertTrue(image == sample().image())

    def test_image_changed_in_place_is_read_anew(self):
        image = sample().image()
        self.assertEqual(answer(image), SAMPLE_TOP)
        self.assertEqual(file_answer(image, "/hello.txt"), b"hello")
        image[3] = 0
        self.assertEqual(answer(image), -3)
        self.assertEqual(file_answer(image, "/hello.txt"), -3)

    def test_nothing_is_printed(self):
        image = sample().image()
        printed = io.StringIO()
        with contextlib.redirect_stdout(printed), contextlib.redirect_stderr(printed):
            for call, path in self.each_call():
                call(image, path)
        self.assertEqual(printed.getvalue(), "")

    def test_answer_is_one_list_of_whole_numbers(self):
        image = sample().image()
        for call, path in self.each_call():
            told = call(image, path)
            self.assertIs(type(told), list)
            self.assertEqual({type(each) for each in told}, {int})


class Nesting(unittest.TestCase):
    """Few calls within one another, however long the input is."""

    def setUp(self):
        before = sys.getrecursionlimit()
        self.addCleanup(sys.setrecursionlimit, before)
        self.within = lambda: sys.setrecursionlimit(len(inspect.stack()) + 60)

    def test_a_long_path(self):
        image = sample().image()
        self.within()
        self.assertEqual(list_of(MOST, image, as_bytes("/." * 2048))[0], len(SAMPLE_TOP))
        self.assertEqual(file(0, 5, image, as_bytes("/." * 2040 + "/hello.txt")), [5] + as_bytes("hello"))

    def test_many_runs(self):
        disk = sample(record_length=4096, clusters=240)
        size = 1800 * 512
        disk.add(22, [in_clusters(0x80, "", [(1, None)] * 1800, size)], uses=9)
        image = disk.image()
        self.within()
        self.assertEqual(list_of(MOST, image, as_bytes("/folder")), [19] + as_bytes("inner/\nnote 921600\n"))
        self.assertTrue(file(0, MOST, image, as_bytes("/folder/note")) == [size] + [0] * size)


if __name__ == "__main__":
    unittest.main()
