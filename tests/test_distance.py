import inspect
import itertools
import unittest

from handrack.day import fetched
from handrack.distance import distances, fetch_count, fewest_hooks
from handrack.errors import NoHook

MOST_HOOKS = 10 ** 10
EXAMPLE = ["saw", "file", "awl", "file", "saw"]
REPEATS = ["saw", "file", "saw", "awl", "awl", "file", "saw"]
# By name, since Python doesn't write out the longest of them where a test fails.
BELOW_ONE = {"nought": 0, "-1": -1, "-2": -2, "far below": -MOST_HOOKS, "very far below": -10 ** 5000}


def many_tools(count):
    return ["tool " + str(number) for number in range(count)]


def mixed_uses(length):
    return ["tool " + str(number * number % 83) for number in range(length)]


def short_rows():
    for length in range(6):
        for uses in itertools.product(["", "awl", "file", "saw"], repeat=length):
            yield list(uses)


def plain_distances(uses):
    """The distances, told by the place of the last use of each tool."""
    told = []
    last = {}
    for place, tool in enumerate(uses):
        told.append(len(set(uses[last[tool] + 1:place])) if tool in last else None)
        last[tool] = place
    return told


def plain_fetch_count(hooks, uses):
    """The fetches, told by which tools were used last ahead of each use."""
    fetches = 0
    for place, tool in enumerate(uses):
        latest_first = list(dict.fromkeys(reversed(uses[:place])))
        if tool not in latest_first[:hooks]:
            fetches += 1
    return fetches


class Interface(unittest.TestCase):
    def test_parameters_have_the_names_of_the_document(self):
        self.assertEqual(list(inspect.signature(distances).parameters), ["uses"])
        self.assertEqual(list(inspect.signature(fetch_count).parameters), ["hooks", "uses"])
        self.assertEqual(list(inspect.signature(fewest_hooks).parameters), ["uses", "most"])

    def test_arguments_may_be_given_by_name(self):
        self.assertEqual(distances(uses=["saw", "saw"]), [None, 0])
        self.assertEqual(fetch_count(uses=["saw", "saw"], hooks=1), 1)
        self.assertEqual(fewest_hooks(most=1, uses=["saw", "saw"]), 1)

    def test_distances_are_a_list_of_whole_numbers_and_none(self):
        for uses in ([], EXAMPLE, REPEATS, mixed_uses(200)):
            answer = distances(uses)
            self.assertIs(type(answer), list)
            self.assertEqual(len(answer), len(uses))
            for distance in answer:
                self.assertIn(type(distance), (int, type(None)))

    def test_numbers_are_whole_numbers(self):
        for uses in ([], ["saw"], EXAMPLE, REPEATS):
            self.assertIs(type(fetch_count(1, uses)), int)
            self.assertIs(type(fewest_hooks(uses, len(uses))), int)


class Distances(unittest.TestCase):
    def test_the_example_of_the_document(self):
        self.assertEqual(distances(EXAMPLE), [None, None, None, 1, 2])

    def test_twice_in_a_row(self):
        self.assertEqual(distances(["saw", "saw"]), [None, 0])
        self.assertEqual(distances(["saw", "saw", "saw"]), [None, 0, 0])
        self.assertEqual(distances(["awl", "saw", "saw", "awl"]), [None, None, 0, 1])

    def test_other_tools_are_counted_once(self):
        self.assertEqual(distances(["saw", "awl", "awl", "awl", "saw"]), [None, None, 0, 0, 1])
        self.assertEqual(
            distances(["saw", "awl", "file", "awl", "file", "saw"]), [None, None, None, 1, 1, 2]
        )

    def test_only_the_last_use_ahead_counts(self):
        self.assertEqual(
            distances(["saw", "awl", "file", "saw", "plane", "saw"]), [None, None, None, 2, None, 1]
        )

    def test_uses_behind_do_not_count(self):
        self.assertEqual(distances(["saw", "awl", "saw", "file", "plane"]), [None, None, 1, None, None])

    def test_repeats(self):
        self.assertEqual(distances(REPEATS), [None, None, 1, None, 0, 2, 2])

    def test_different_tools(self):
        self.assertEqual(distances(["saw"]), [None])
        self.assertEqual(distances(many_tools(200)), [None] * 200)

    def test_without_uses(self):
        self.assertEqual(distances([]), [])

    def test_the_greatest_distance(self):
        for count in (100, 199, 200, 230):
            with self.subTest(count=count):
                self.assertEqual(
                    distances(many_tools(count) + many_tools(count)), [None] * count + [count - 1] * count
                )

    def test_all_short_rows(self):
        for uses in short_rows():
            self.assertEqual(distances(uses), plain_distances(uses))

    def test_two_hundred_uses_and_somewhat_more(self):
        for length in (199, 200, 201, 230):
            self.assertEqual(distances(mixed_uses(length)), plain_distances(mixed_uses(length)))


class FetchesByDistance(unittest.TestCase):
    def check(self, hooks, uses):
        told = [distance is None or distance >= hooks for distance in distances(uses)]
        self.assertEqual(fetched(hooks, uses), told)
        self.assertEqual(fetch_count(hooks, uses), told.count(True))
        self.assertEqual(fetch_count(hooks, uses), plain_fetch_count(hooks, uses))

    def test_hooks_round_the_distance(self):
        uses = ["saw", "file", "awl", "saw"]
        self.assertEqual(distances(uses)[-1], 2)
        self.assertEqual([fetched(hooks, uses)[-1] for hooks in (1, 2, 3, 4)], [True, True, False, False])
        self.assertEqual([fetch_count(hooks, uses) for hooks in (1, 2, 3, 4)], [4, 4, 3, 3])

    def test_repeats(self):
        for hooks, fetches in ((1, 6), (2, 5), (3, 3), (4, 3), (7, 3), (8, 3), (MOST_HOOKS, 3)):
            with self.subTest(hooks=hooks):
                self.assertEqual(fetch_count(hooks, REPEATS), fetches)

    def test_the_same_tool_all_day_is_fetched_once(self):
        for hooks in (1, 2, MOST_HOOKS):
            self.assertEqual(fetch_count(hooks, ["saw"] * 9), 1)

    def test_all_short_rows(self):
        for uses in short_rows():
            for hooks in range(1, 6):
                self.check(hooks, uses)

    def test_two_hundred_uses_and_somewhat_more(self):
        for length in (200, 230):
            for hooks in (1, 2, 7, 40, 41, 42, 43, length - 1, length, MOST_HOOKS, MOST_HOOKS + 1):
                with self.subTest(length=length, hooks=hooks):
                    self.check(hooks, many_tools(length))
                    self.check(hooks, mixed_uses(length))

    def test_never_more_with_more_hooks(self):
        for uses in (EXAMPLE, REPEATS, mixed_uses(200)):
            counts = [fetch_count(hooks, uses) for hooks in list(range(1, 60)) + [MOST_HOOKS]]
            self.assertEqual(counts, sorted(counts, reverse=True))

    def test_without_uses(self):
        for hooks in (1, 2, MOST_HOOKS):
            self.assertEqual(fetch_count(hooks, []), 0)


class NoHooks(unittest.TestCase):
    def test_refused_with_uses_and_without(self):
        for name, hooks in BELOW_ONE.items():
            for uses in ([], ["saw"], REPEATS):
                with self.subTest(hooks=name, length=len(uses)):
                    with self.assertRaises(NoHook):
                        fetch_count(hooks, uses)

    def test_one_hook_is_not_refused(self):
        self.assertEqual(fetch_count(1, ["saw"]), 1)


class FewestHooks(unittest.TestCase):
    def check(self, uses, most):
        hooks = fewest_hooks(uses, most)
        if len(set(uses)) > most:
            self.assertIsNone(hooks)
            return
        self.assertIsNotNone(hooks)
        self.assertGreaterEqual(hooks, 1)
        self.assertLessEqual(plain_fetch_count(hooks, uses), most)
        if hooks > 1:
            self.assertGreater(plain_fetch_count(hooks - 1, uses), most)

    def test_repeats(self):
        told = {
            -MOST_HOOKS: None, -1: None, 0: None, 2: None, 3: 3, 4: 3, 5: 2, 6: 1, 7: 1, 8: 1,
            MOST_HOOKS: 1,
        }
        for most, hooks in told.items():
            with self.subTest(most=most):
                self.assertEqual(fewest_hooks(REPEATS, most), hooks)

    def test_one_use(self):
        self.assertIsNone(fewest_hooks(["saw"], -1))
        self.assertIsNone(fewest_hooks(["saw"], 0))
        self.assertEqual(fewest_hooks(["saw"], 1), 1)
        self.assertEqual(fewest_hooks(["saw"], 2), 1)

    def test_the_same_tool_all_day(self):
        self.assertIsNone(fewest_hooks(["saw"] * 9, 0))
        self.assertEqual(fewest_hooks(["saw"] * 9, 1), 1)

    def test_different_tools(self):
        self.assertIsNone(fewest_hooks(["saw", "file", "awl"], 2))
        self.assertEqual(fewest_hooks(["saw", "file", "awl"], 3), 1)

    def test_without_uses(self):
        for most in (0, 1, 2, MOST_HOOKS):
            with self.subTest(most=most):
                self.assertEqual(fewest_hooks([], most), 1)
        for most in (-1, -2, -MOST_HOOKS):
            with self.subTest(most=most):
                self.assertIsNone(fewest_hooks([], most))

    def test_as_many_fetches_as_uses_and_more(self):
        for uses in (["saw"], EXAMPLE, REPEATS, many_tools(200), mixed_uses(230)):
            for most in (len(uses), len(uses) + 1, MOST_HOOKS):
                with self.subTest(length=len(uses), most=most):
                    self.assertEqual(fewest_hooks(uses, most), 1)

    def test_as_many_hooks_as_different_tools_may_be_needed(self):
        for count in (2, 3, 100, 115, 200):
            uses = many_tools(count) + many_tools(count)
            with self.subTest(count=count):
                self.assertIsNone(fewest_hooks(uses, count - 1))
                self.assertEqual(fewest_hooks(uses, count), count)
                self.assertEqual(fewest_hooks(uses, 2 * count - 1), count)
                self.assertEqual(fewest_hooks(uses, 2 * count), 1)

    def test_one_use_more_than_different_tools(self):
        for count in (1, 2, 3, 199, 200, 201, 230):
            tools = many_tools(count)
            with self.subTest(count=count):
                self.assertEqual(fewest_hooks(tools + [tools[0]], count), count)

    def test_all_short_rows(self):
        for uses in short_rows():
            for most in range(-2, 8):
                self.check(uses, most)

    def test_two_hundred_uses_and_somewhat_more(self):
        for length in (200, 230):
            for most in list(range(38, 60)) + [100, 150, 199, 200, 201, 230, MOST_HOOKS]:
                with self.subTest(length=length, most=most):
                    self.check(mixed_uses(length), most)


class Texts(unittest.TestCase):
    def test_the_empty_text_is_a_tool(self):
        self.assertEqual(distances(["", "saw", ""]), [None, None, 1])
        self.assertEqual(distances(["saw", "", "", "saw"]), [None, None, 0, 1])
        self.assertEqual(fetch_count(1, ["", "saw", ""]), 3)
        self.assertEqual(fetch_count(2, ["", "saw", ""]), 2)
        self.assertEqual(fewest_hooks(["", "saw", ""], 2), 2)
        self.assertIsNone(fewest_hooks([""], 0))
        self.assertEqual(fewest_hooks([""], 1), 1)

    def test_long_texts_that_differ_in_one_sign_are_different_tools(self):
        one = "x" * 10000
        for place in (0, 5000, 9999):
            other = one[:place] + "y" + one[place + 1:]
            with self.subTest(place=place):
                self.assertEqual(distances([one, other, one]), [None, None, 1])
                self.assertEqual(fetch_count(1, [one, other, one]), 3)
                self.assertEqual(fewest_hooks([one, other, one], 2), 2)
                self.assertIsNone(fewest_hooks([one, other, one], 1))

    def test_the_same_text_made_anew_is_the_same_tool(self):
        one = "long plane " + "x" * 5000
        made_anew = "".join(["long ", "plane ", "x" * 5000])
        self.assertEqual(distances([one, "saw", made_anew]), [None, None, 1])

    def test_texts_are_taken_sign_by_sign(self):
        for one, other in (("saw", "Saw"), ("saw", "saw "), ("", " "), ("1", "01"), ("None", "")):
            with self.subTest(one=one, other=other):
                self.assertEqual(distances([one, other, one]), [None, None, 1])


class WhatIsHandedIn(unittest.TestCase):
    def test_the_list_stays_as_it_was(self):
        for uses in ([], ["saw"], EXAMPLE, REPEATS, mixed_uses(200)):
            with self.subTest(length=len(uses)):
                handed_in = list(uses)
                distances(handed_in)
                self.assertEqual(handed_in, uses)
                fetch_count(2, handed_in)
                self.assertEqual(handed_in, uses)
                for most in (-1, 0, 3, 200):
                    fewest_hooks(handed_in, most)
                    self.assertEqual(handed_in, uses)

    def test_it_stays_as_it_was_where_the_call_is_refused(self):
        handed_in = list(REPEATS)
        with self.assertRaises(NoHook):
            fetch_count(0, handed_in)
        self.assertEqual(handed_in, REPEATS)

    def test_a_change_to_the_answer_does_not_reach_it(self):
        for uses in ([], ["saw"], REPEATS):
            handed_in = list(uses)
            distances(handed_in).append(0)
            self.assertEqual(handed_in, uses)

    def test_nothing_is_kept_from_call_to_call(self):
        ahead = distances(REPEATS)
        distances(["plane", "saw"]).append(0)
        self.assertEqual(distances(REPEATS), ahead)


if __name__ == "__main__":
    unittest.main()
