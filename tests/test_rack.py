import inspect
import itertools
import unittest

from handrack.rack import used

MOST_HOOKS = 10 ** 10


def many_tools(count):
    return ["tool " + str(number) for number in range(count)]


def used_last(hooks, uses):
    """The different tools used last, told from the uses alone and without the rack."""
    latest_first = list(dict.fromkeys(reversed(uses)))
    return latest_first[:hooks]


class Interface(unittest.TestCase):
    def test_parameters_have_the_names_of_the_document(self):
        self.assertEqual(list(inspect.signature(used).parameters), ["rack", "hooks", "tool"])

    def test_arguments_may_be_given_by_name(self):
        self.assertEqual(used(tool="saw", hooks=1, rack=["awl"]), (["saw"], "awl"))

    def test_answer_is_a_tuple_of_a_list_and_the_tool_that_goes(self):
        calls = {
            "none hangs": ([], 2, "saw"),
            "hangs as the first": (["saw", "awl"], 2, "saw"),
            "hangs as the last": (["awl", "saw"], 2, "saw"),
            "a hook to spare": (["awl"], 2, "saw"),
            "no hook left": (["awl", "file"], 2, "saw"),
        }
        for name, (rack, hooks, tool) in calls.items():
            with self.subTest(name):
                answer = used(rack, hooks, tool)
                self.assertIs(type(answer), tuple)
                self.assertEqual(len(answer), 2)
                self.assertIs(type(answer[0]), list)


class ToolThatHangs(unittest.TestCase):
    def test_the_first_stays_the_first(self):
        self.assertEqual(used(["saw", "file", "awl"], 5, "saw"), (["saw", "file", "awl"], None))

    def test_one_in_the_middle_becomes_the_first(self):
        self.assertEqual(
            used(["saw", "file", "awl", "plane"], 5, "awl"), (["awl", "saw", "file", "plane"], None)
        )

    def test_the_last_becomes_the_first(self):
        self.assertEqual(used(["saw", "file", "awl"], 5, "awl"), (["awl", "saw", "file"], None))

    def test_nothing_goes_where_there_are_as_many_tools_as_hooks(self):
        self.assertEqual(used(["saw", "file", "awl"], 3, "saw"), (["saw", "file", "awl"], None))
        self.assertEqual(used(["saw", "file", "awl"], 3, "file"), (["file", "saw", "awl"], None))
        self.assertEqual(used(["saw", "file", "awl"], 3, "awl"), (["awl", "saw", "file"], None))

    def test_the_only_tool(self):
        self.assertEqual(used(["saw"], 1, "saw"), (["saw"], None))
        self.assertEqual(used(["saw"], 2, "saw"), (["saw"], None))


class ToolThatDoesNotHang(unittest.TestCase):
    def test_rack_without_tools(self):
        for hooks in (1, 2, 200, MOST_HOOKS):
            with self.subTest(hooks=hooks):
                self.assertEqual(used([], hooks, "saw"), (["saw"], None))

    def test_hooks_to_spare(self):
        self.assertEqual(used(["saw", "file"], 9, "awl"), (["awl", "saw", "file"], None))

    def test_the_last_hook_to_spare(self):
        self.assertEqual(used(["saw", "file"], 3, "awl"), (["awl", "saw", "file"], None))

    def test_the_last_goes_where_there_are_as_many_tools_as_hooks(self):
        self.assertEqual(used(["saw", "file"], 2, "awl"), (["awl", "saw"], "file"))
        self.assertEqual(
            used(["saw", "file", "plane"], 3, "awl"), (["awl", "saw", "file"], "plane")
        )

    def test_the_order_is_that_of_use_and_not_of_the_alphabet(self):
        self.assertEqual(used(["c", "a", "d", "b"], 5, "bb"), (["bb", "c", "a", "d", "b"], None))
        self.assertEqual(used(["c", "a", "d", "b"], 4, "bb"), (["bb", "c", "a", "d"], "b"))

    def test_one_hook(self):
        self.assertEqual(used(["saw"], 1, "awl"), (["awl"], "saw"))


class EmptyText(unittest.TestCase):
    def test_it_is_used(self):
        self.assertEqual(used([], 1, ""), ([""], None))
        self.assertEqual(used(["saw"], 2, ""), (["", "saw"], None))
        self.assertEqual(used(["saw", "awl"], 2, ""), (["", "saw"], "awl"))

    def test_it_hangs_and_is_used_again(self):
        self.assertEqual(used([""], 1, ""), ([""], None))
        self.assertEqual(used(["saw", ""], 2, ""), (["", "saw"], None))
        self.assertEqual(used(["saw", "", "awl"], 3, ""), (["", "saw", "awl"], None))

    def test_it_hangs_while_another_is_used(self):
        self.assertEqual(used(["saw", "", "awl"], 3, "awl"), (["awl", "saw", ""], None))
        self.assertEqual(used(["", "saw"], 3, "awl"), (["awl", "", "saw"], None))

    def test_it_goes_as_the_empty_text(self):
        for rack, hooks in (([""], 1), (["saw", ""], 2)):
            with self.subTest(rack=rack):
                behind, gone = used(rack, hooks, "awl")
                self.assertEqual(behind, ["awl"] + rack[:-1])
                self.assertIsNotNone(gone)
                self.assertEqual(gone, "")


class TextsThatAreAlike(unittest.TestCase):
    def test_long_texts_that_differ_in_one_sign_are_different_tools(self):
        long_text = "x" * 10000
        for place in (0, 5000, 9999):
            with self.subTest(place=place):
                other = long_text[:place] + "y" + long_text[place + 1:]
                self.assertEqual(used([long_text], 2, other), ([other, long_text], None))
                self.assertEqual(used([long_text], 1, other), ([other], long_text))
                self.assertEqual(used([other, long_text], 2, long_text), ([long_text, other], None))

    def test_a_text_and_a_longer_one_that_begins_with_it_are_different_tools(self):
        short, longer = "x" * 10000, "x" * 10001
        self.assertEqual(used([longer], 2, short), ([short, longer], None))
        self.assertEqual(used([short], 1, longer), ([longer], short))

    def test_texts_are_taken_sign_by_sign(self):
        alike = [
            ("saw", "Saw"), ("saw", "saw "), ("saw", " saw"), ("saw", "saw\n"), ("", " "),
            ("\u00e9", "e\u0301"), ("1", "01"), ("None", ""),
        ]
        for one, other in alike:
            with self.subTest(one=one, other=other):
                self.assertEqual(used([one], 2, other), ([other, one], None))
                self.assertEqual(used([other], 1, one), ([one], other))

    def test_the_same_text_made_anew_is_the_same_tool(self):
        made_anew = "".join(["long ", "plane ", "x" * 5000])
        hanging = "long plane " + "x" * 5000
        self.assertEqual(used(["saw", hanging], 2, made_anew), ([hanging, "saw"], None))


class GreatNumbers(unittest.TestCase):
    def test_many_hooks(self):
        for hooks in (MOST_HOOKS - 1, MOST_HOOKS, MOST_HOOKS + 1, 10 ** 11):
            with self.subTest(hooks=hooks):
                self.assertEqual(used(["saw", "file"], hooks, "awl"), (["awl", "saw", "file"], None))
                self.assertEqual(used(["saw", "file"], hooks, "file"), (["file", "saw"], None))

    def test_long_racks(self):
        for count in (199, 200, 201, 250):
            rack = many_tools(count)
            with self.subTest(count=count):
                self.assertEqual(used(rack, count, "saw"), (["saw"] + rack[:-1], rack[-1]))
                self.assertEqual(used(rack, count + 1, "saw"), (["saw"] + rack, None))
                self.assertEqual(used(rack, MOST_HOOKS, "saw"), (["saw"] + rack, None))
                self.assertEqual(used(rack, count, rack[0]), (rack, None))
                self.assertEqual(used(rack, count, rack[-1]), ([rack[-1]] + rack[:-1], None))
                self.assertEqual(
                    used(rack, count, rack[100]), ([rack[100]] + rack[:100] + rack[101:], None)
                )


class WhatIsHandedIn(unittest.TestCase):
    calls = [
        ([], 1, "saw"),
        (["saw"], 1, "saw"),
        (["saw"], 1, "awl"),
        (["saw", "file", "awl"], 3, "saw"),
        (["saw", "file", "awl"], 3, "file"),
        (["saw", "file", "awl"], 3, "awl"),
        (["saw", "file", "awl"], 3, "plane"),
        (["saw", "file", "awl"], 4, "plane"),
    ]

    def test_the_list_stays_as_it_was(self):
        for rack, hooks, tool in self.calls:
            with self.subTest(rack=rack, hooks=hooks, tool=tool):
                handed_in = list(rack)
                used(handed_in, hooks, tool)
                self.assertEqual(handed_in, rack)

    def test_a_change_to_the_answer_does_not_reach_it(self):
        for rack, hooks, tool in self.calls:
            with self.subTest(rack=rack, hooks=hooks, tool=tool):
                handed_in = list(rack)
                behind, _ = used(handed_in, hooks, tool)
                behind.append("plane")
                self.assertEqual(handed_in, rack)

    def test_the_same_call_twice_has_the_same_answer(self):
        for rack, hooks, tool in self.calls:
            with self.subTest(rack=rack, hooks=hooks, tool=tool):
                self.assertEqual(used(rack, hooks, tool), used(rack, hooks, tool))


class UsesInARow(unittest.TestCase):
    def check(self, hooks, uses):
        rack = []
        for place, tool in enumerate(uses):
            ahead = rack
            rack, gone = used(ahead, hooks, tool)
            self.assertEqual(rack, used_last(hooks, uses[:place + 1]))
            went = [other for other in ahead if other not in rack]
            self.assertEqual([] if gone is None else [gone], went)

    def test_all_short_rows(self):
        for length in range(1, 7):
            for uses in itertools.product(["", "awl", "file", "saw"], repeat=length):
                for hooks in range(1, 6):
                    self.check(hooks, list(uses))

    def test_two_hundred_uses_and_somewhat_more(self):
        for length in (200, 230):
            for hooks in (1, 7, 40, 41, 200, MOST_HOOKS):
                with self.subTest(length=length, hooks=hooks):
                    self.check(hooks, many_tools(length))
                    self.check(hooks, ["tool " + str(n * n % 83) for n in range(length)])


if __name__ == "__main__":
    unittest.main()
