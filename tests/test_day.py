import inspect
import itertools
import unittest

from handrack.day import fetched, goings, racks
from handrack.errors import NoHook
from handrack.rack import used

MOST_HOOKS = 10 ** 10
FUNCTIONS = (racks, goings, fetched)
REPEATS = ["saw", "file", "saw", "awl", "awl", "file", "saw"]
# By name, since Python doesn't write out the longest of them where a test fails.
BELOW_ONE = {"nought": 0, "-1": -1, "-2": -2, "far below": -MOST_HOOKS, "very far below": -10 ** 5000}


def many_tools(count):
    return ["tool " + str(number) for number in range(count)]


def mixed_uses(length):
    return ["tool " + str(number * number % 83) for number in range(length)]


def short_rows():
    for length in range(6):
        for uses in itertools.product(["", "awl", "file", "saw"], repeat=length):
            yield list(uses)


def used_last(hooks, uses):
    """The different tools used last, told from the uses alone and without the rack."""
    latest_first = list(dict.fromkeys(reversed(uses)))
    return latest_first[:hooks]


class Interface(unittest.TestCase):
    def test_parameters_have_the_names_of_the_document(self):
        for function in FUNCTIONS:
            with self.subTest(function.__name__):
                self.assertEqual(list(inspect.signature(function).parameters), ["hooks", "uses"])

    def test_arguments_may_be_given_by_name(self):
        self.assertEqual(racks(uses=["saw", "awl"], hooks=1), [["saw"], ["awl"]])
        self.assertEqual(goings(uses=["saw", "awl"], hooks=1), [None, "saw"])
        self.assertEqual(fetched(uses=["saw", "awl"], hooks=1), [True, True])

    def test_answers_are_lists_with_one_thing_for_each_use(self):
        for uses in ([], ["saw"], REPEATS, mixed_uses(200)):
            for hooks in (1, 2, 3, 200, MOST_HOOKS):
                for function in FUNCTIONS:
                    with self.subTest(function.__name__, hooks=hooks, length=len(uses)):
                        answer = function(hooks, uses)
                        self.assertIs(type(answer), list)
                        self.assertEqual(len(answer), len(uses))

    def test_each_rack_is_a_list(self):
        for rack in racks(2, REPEATS):
            self.assertIs(type(rack), list)

    def test_fetched_answers_true_and_false_themselves(self):
        for hooks in (1, 2, 3, 4):
            for answer in fetched(hooks, REPEATS):
                self.assertIs(type(answer), bool)


class UsesWithRepeats(unittest.TestCase):
    def test_one_hook(self):
        self.assertEqual(
            racks(1, REPEATS), [["saw"], ["file"], ["saw"], ["awl"], ["awl"], ["file"], ["saw"]]
        )
        self.assertEqual(goings(1, REPEATS), [None, "saw", "file", "saw", None, "awl", "file"])
        self.assertEqual(fetched(1, REPEATS), [True, True, True, True, False, True, True])

    def test_fewer_hooks_than_different_tools(self):
        self.assertEqual(
            racks(2, REPEATS),
            [
                ["saw"], ["file", "saw"], ["saw", "file"], ["awl", "saw"], ["awl", "saw"],
                ["file", "awl"], ["saw", "file"],
            ],
        )
        self.assertEqual(goings(2, REPEATS), [None, None, None, "file", None, "saw", "awl"])
        self.assertEqual(fetched(2, REPEATS), [True, True, False, True, False, True, True])

    def test_as_many_hooks_as_different_tools_and_more(self):
        for hooks in (3, 4, 7, 8, MOST_HOOKS):
            with self.subTest(hooks=hooks):
                self.assertEqual(
                    racks(hooks, REPEATS),
                    [
                        ["saw"], ["file", "saw"], ["saw", "file"], ["awl", "saw", "file"],
                        ["awl", "saw", "file"], ["file", "awl", "saw"], ["saw", "file", "awl"],
                    ],
                )
                self.assertEqual(goings(hooks, REPEATS), [None] * 7)
                self.assertEqual(
                    fetched(hooks, REPEATS), [True, True, False, True, False, False, False]
                )

    def test_the_same_tool_all_day(self):
        for hooks in (1, 2, MOST_HOOKS):
            with self.subTest(hooks=hooks):
                self.assertEqual(racks(hooks, ["saw"] * 4), [["saw"]] * 4)
                self.assertEqual(goings(hooks, ["saw"] * 4), [None] * 4)
                self.assertEqual(fetched(hooks, ["saw"] * 4), [True, False, False, False])

    def test_a_tool_that_went_is_fetched_again(self):
        uses = ["saw", "file", "awl", "saw"]
        self.assertEqual(fetched(2, uses), [True, True, True, True])
        self.assertEqual(goings(2, uses), [None, None, "saw", "file"])


class WithoutUses(unittest.TestCase):
    def test_the_empty_list(self):
        for function in FUNCTIONS:
            for hooks in (1, 2, MOST_HOOKS):
                with self.subTest(function.__name__, hooks=hooks):
                    self.assertEqual(function(hooks, []), [])


class NoHooks(unittest.TestCase):
    def test_refused_with_uses_and_without(self):
        for function in FUNCTIONS:
            for name, hooks in BELOW_ONE.items():
                for uses in ([], ["saw"], REPEATS):
                    with self.subTest(function.__name__, hooks=name, length=len(uses)):
                        with self.assertRaises(NoHook):
                            function(hooks, uses)

    def test_one_hook_is_not_refused(self):
        self.assertEqual(racks(1, ["saw"]), [["saw"]])
        self.assertEqual(goings(1, ["saw"]), [None])
        self.assertEqual(fetched(1, ["saw"]), [True])


class HeldAgainstThePlainReckoning(unittest.TestCase):
    def check(self, hooks, uses):
        behind = [used_last(hooks, uses[:place + 1]) for place in range(len(uses))]
        ahead = [used_last(hooks, uses[:place]) for place in range(len(uses))]
        went = [[tool for tool in ahead[k] if tool not in behind[k]] for k in range(len(uses))]
        self.assertEqual(racks(hooks, uses), behind)
        self.assertEqual([[] if gone is None else [gone] for gone in goings(hooks, uses)], went)
        self.assertEqual(fetched(hooks, uses), [uses[k] not in ahead[k] for k in range(len(uses))])

    def test_all_short_rows(self):
        for uses in short_rows():
            for hooks in range(1, 6):
                self.check(hooks, uses)

    def test_two_hundred_uses_and_somewhat_more(self):
        for length in (199, 200, 201, 230):
            for hooks in (1, 2, 7, 40, 41, 42, 43, length - 1, length, MOST_HOOKS, MOST_HOOKS + 1):
                with self.subTest(length=length, hooks=hooks):
                    self.check(hooks, many_tools(length))
                    self.check(hooks, mixed_uses(length))

    def test_many_hooks(self):
        for hooks in (MOST_HOOKS - 1, MOST_HOOKS, MOST_HOOKS + 1, 10 ** 11):
            with self.subTest(hooks=hooks):
                self.check(hooks, REPEATS)


class OneUseAfterTheOther(unittest.TestCase):
    def test_the_day_goes_on_as_used_tells(self):
        for hooks in (1, 2, 3, 4, 41, MOST_HOOKS):
            for uses in (REPEATS, mixed_uses(200)):
                rack = []
                told = []
                for tool in uses:
                    told.append(used(rack, hooks, tool))
                    rack = told[-1][0]
                with self.subTest(hooks=hooks, length=len(uses)):
                    self.assertEqual(list(zip(racks(hooks, uses), goings(hooks, uses))), told)


class MoreHooks(unittest.TestCase):
    def check(self, fewer, more, uses):
        for small, large in zip(racks(fewer, uses), racks(more, uses), strict=True):
            self.assertEqual(small, large[:len(small)])
        self.assertGreaterEqual(fetched(fewer, uses).count(True), fetched(more, uses).count(True))

    def test_all_short_rows(self):
        for uses in short_rows():
            for fewer in range(1, 5):
                self.check(fewer, fewer + 1, uses)
            self.check(1, MOST_HOOKS, uses)

    def test_long_rows(self):
        for fewer, more in ((1, 2), (2, 5), (5, 40), (40, 41), (41, 42), (42, 200), (200, MOST_HOOKS)):
            with self.subTest(fewer=fewer, more=more):
                self.check(fewer, more, mixed_uses(230))
                self.check(fewer, more, many_tools(230))


class Texts(unittest.TestCase):
    def test_the_empty_text_is_used_and_fetched(self):
        self.assertEqual(racks(2, ["", "saw", ""]), [[""], ["saw", ""], ["", "saw"]])
        self.assertEqual(fetched(2, ["", "saw", ""]), [True, True, False])
        self.assertEqual(goings(2, ["", "saw", ""]), [None, None, None])

    def test_the_empty_text_goes_as_the_empty_text(self):
        gone = goings(1, ["", "saw", "", "", "awl"])
        self.assertEqual(gone, [None, "", "saw", None, ""])
        self.assertIsNotNone(gone[1])
        self.assertEqual(goings(2, ["", "saw", "awl"]), [None, None, ""])

    def test_long_texts_that_differ_in_one_sign_are_different_tools(self):
        one = "x" * 10000
        for place in (0, 5000, 9999):
            other = one[:place] + "y" + one[place + 1:]
            with self.subTest(place=place):
                self.assertEqual(racks(1, [one, other, one]), [[one], [other], [one]])
                self.assertEqual(racks(2, [one, other, one]), [[one], [other, one], [one, other]])
                self.assertEqual(goings(1, [one, other, one]), [None, one, other])
                self.assertEqual(fetched(1, [one, other, one]), [True, True, True])
                self.assertEqual(fetched(2, [one, other, one]), [True, True, False])

    def test_texts_are_taken_sign_by_sign(self):
        for one, other in (("saw", "Saw"), ("saw", "saw "), ("", " "), ("1", "01"), ("None", "")):
            with self.subTest(one=one, other=other):
                self.assertEqual(fetched(2, [one, other]), [True, True])
                self.assertEqual(goings(1, [one, other]), [None, one])


class WhatIsHandedIn(unittest.TestCase):
    def test_the_list_stays_as_it_was(self):
        for function in FUNCTIONS:
            for hooks in (1, 2, 3, MOST_HOOKS):
                for uses in ([], ["saw"], REPEATS, mixed_uses(200)):
                    with self.subTest(function.__name__, hooks=hooks, length=len(uses)):
                        handed_in = list(uses)
                        function(hooks, handed_in)
                        self.assertEqual(handed_in, uses)

    def test_it_stays_as_it_was_where_the_call_is_refused(self):
        for function in FUNCTIONS:
            with self.subTest(function.__name__):
                handed_in = list(REPEATS)
                with self.assertRaises(NoHook):
                    function(0, handed_in)
                self.assertEqual(handed_in, REPEATS)

    def test_a_change_to_the_answer_does_not_reach_it(self):
        for function in FUNCTIONS:
            for uses in ([], ["saw"], REPEATS):
                with self.subTest(function.__name__, length=len(uses)):
                    handed_in = list(uses)
                    function(3, handed_in).append("plane")
                    self.assertEqual(handed_in, uses)

    def test_a_change_to_one_rack_does_not_reach_another(self):
        told = racks(3, REPEATS)
        told[3].append("plane")
        self.assertEqual(told[:3] + told[4:], racks(3, REPEATS)[:3] + racks(3, REPEATS)[4:])

    def test_nothing_is_kept_from_call_to_call(self):
        for function in FUNCTIONS:
            with self.subTest(function.__name__):
                ahead = function(2, REPEATS)
                function(1, ["plane", "saw"]).append("plane")
                self.assertEqual(function(2, REPEATS), ahead)


if __name__ == "__main__":
    unittest.main()
