import unittest

from handrack.errors import NoHook, RackError


class ErrorClasses(unittest.TestCase):
    def test_rack_error_stands_under_value_error(self):
        self.assertEqual(RackError.__bases__, (ValueError,))

    def test_no_hook_stands_under_rack_error(self):
        self.assertEqual(NoHook.__bases__, (RackError,))

    def test_no_hook_is_taken_as_each_class_above_it(self):
        for above in (NoHook, RackError, ValueError):
            with self.subTest(above=above.__name__):
                with self.assertRaises(above):
                    raise NoHook("no hook")

    def test_a_rack_error_is_not_yet_a_no_hook(self):
        self.assertNotIsInstance(RackError("refused"), NoHook)

    def test_the_words_of_an_error_are_kept(self):
        self.assertEqual(str(RackError("refused")), "refused")
        self.assertEqual(str(NoHook("no hook")), "no hook")


if __name__ == "__main__":
    unittest.main()
