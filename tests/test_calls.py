"""How calls are read and answered, and the calls example, drop and shown."""

import unittest

from asking import FAMILY, FIND, SHOWN, apart, ask, drop, example, raw_example, text
from linescriptsyard.examples import answers

TEN_18 = 10 ** 18
FOUR = [example([word], []) for word in ("a", "b", "c", "d")]


def shown_of(*pairs):
    """What shown answers where these examples are held."""
    answer = [len(pairs)]
    for before, after in pairs:
        for lines in (before, after):
            told = text(*lines)
            answer += [len(told)] + told
    return answer


class Lists(unittest.TestCase):
    """How calls are handed in and answers given back."""

    def test_worked_example(self):
        calls = [0, 8, 97, 98, 10, 99, 10, 97, 98, 10, 6, 97, 98, 10, 97, 98, 10, 3, 4]
        find = [1, 17, 105, 102, 32, 105, 115, 32, 99, 32, 100, 101, 108, 101, 116, 101, 32, 59, 10]
        self.assertEqual(answers(calls), [1, 1, 4, 19, 11, 209, 6, 19] + find)

    def test_each_call_alone(self):
        self.assertEqual(answers([0, 0, 0]), [1, 1])
        self.assertEqual(answers([0, 2, 97, 10, 0]), [1, 1])
        self.assertEqual(answers([0, 0, 2, 97, 10]), [1, 1])
        self.assertEqual(answers([1, 0]), [1, -2])
        self.assertEqual(answers([2]), [1, 0])
        self.assertEqual(answers([3]), [4, 3, 1, 3, 0])
        self.assertEqual(answers([4]), [2, 0, 0])

    def test_several_calls(self):
        calls = [2, 0, 1, 10, 0, 0, 0, 3, 97, 98, 10, 2, 1, 0, 2]
        told = [1, 0, 1, 1, 1, 2, 9, 2, 1, 10, 0, 0, 3, 97, 98, 10, 1, 1, 6, 1, 0, 3, 97, 98, 10]
        self.assertEqual(answers(calls), told)

    def test_ten_calls(self):
        calls = [1, 0, 0, 1, 97, 0, 1, 0, 4, 3, 2, 0, 0, 0, 2, 1, 0, 2]
        told = [1, -2, 1, -4, 1, -2, 2, 0, 0, 4, 3, 1, 3, 0, 1, 0, 1, 1, 3, 1, 0, 0, 1, 0, 1, 0]
        self.assertEqual(answers(calls), told)

    def test_a_refusal_is_its_number_alone(self):
        self.assertEqual(answers([0, 1, 97, 0]), [1, -4])
        self.assertEqual(answers([1, 7]), [1, -2])
        self.assertEqual(ask(*FOUR, example([], []))[4], [-7])
        self.assertEqual(ask(example([], ["a"]), FIND), [[1], [-8]])

    def test_an_object_is_new_each_time(self):
        answers([0, 0, 0])
        self.assertEqual(answers([2]), [1, 0])

    def test_nothing_handed_in_is_changed(self):
        many = [
            [0, 8, 97, 98, 10, 99, 10, 97, 98, 10, 6, 97, 98, 10, 97, 98, 10, 2, 3, 4, 1, 0, 1, 0],
            [0, 1, 97, 0, 2, 0, 0, 0, 2, 4, 3],
            [number for call in FOUR + FOUR + [FIND, SHOWN] for number in call],
        ]
        for calls in many:
            kept = list(calls)
            first = answers(calls)
            self.assertEqual(calls, kept)
            first_kept = list(first)
            self.assertEqual(answers(calls), first_kept)
            self.assertEqual(first, first_kept)
            self.assertEqual(calls, kept)

    def test_answers_are_whole_numbers_in_a_list(self):
        calls = [0, 2, 97, 10, 2, 98, 10, 2, 3, 4, 1, 5, 1, 0, 0, 1, 97, 0]
        told = answers(calls)
        self.assertIs(type(told), list)
        self.assertEqual({type(number) for number in told}, {int})
        self.assertEqual([answer[0] for answer in apart(told)], [1, 1, 9, 1, -2, 0, -4])


class ExampleCall(unittest.TestCase):
    """The call example."""

    def refused(self, told):
        """Look that bytes are refused as either text, and that nothing is put."""
        good = text("a")
        told_first = ask(example(["b"], []), raw_example(told, good), raw_example(good, told), SHOWN)
        self.assertEqual(told_first, [[1], [-4], [-4], shown_of((["b"], []))])

    def taken(self, *lines):
        """Look that a text of these lines is taken as either text."""
        told = ask(example(lines, ["a"]), example(["a"], lines), SHOWN)
        self.assertEqual(told, [[1], [2], shown_of((lines, ["a"]), (["a"], lines))])

    def test_counts_up(self):
        self.assertEqual(ask(*FOUR), [[1], [2], [3], [4]])

    def test_the_same_example_may_be_put_again(self):
        self.assertEqual(ask(FOUR[0], FOUR[0]), [[1], [2]])

    def test_bytes_that_are_no_letters(self):
        for byte in range(256):
            if byte != 10 and not 97 <= byte <= 122:
                self.refused([97, byte, 98, 10])
                self.refused([byte, 10])
                self.refused([97, 10, byte])

    def test_all_letters(self):
        self.taken("abcdefghijklm", "nopqrstuvwxyz")

    def test_a_last_line_that_is_not_ended(self):
        self.refused([97])
        self.refused([10, 97])
        self.refused([97, 10, 97, 98])

    def test_letters_of_a_line(self):
        self.taken("a" * 16)
        self.taken("", "abcdefghijklmnop", "b")
        self.refused(text("a" * 17))
        self.refused(text("a", "b" * 17, "c"))
        self.refused([97] * 16)
        self.refused([97] * 17)

    def test_lines_of_an_example(self):
        self.taken(*["a"] * 6)
        self.taken(*[""] * 6)
        self.taken(*["abcdefghijklmnop"] * 6)
        for count in (7, 24, 25, 60):
            self.refused(text(*["a"] * count))
            self.refused(text(*[""] * count))
        self.refused(text(*["a"] * 6) + [97])

    def test_the_longest_lists(self):
        self.refused([97] * 8192)
        self.refused([10] * 8192)
        self.refused([97, 10] * 4096)
        self.refused(([97] * 15 + [10]) * 512)
        self.refused([0] * 8192)
        self.assertEqual(ask(raw_example([10] * 8192, [10] * 8192), SHOWN), [[-4], [0]])

    def test_the_script_s_own_words_may_be_lines(self):
        self.taken("if", "none", "delete")

    def test_a_fifth_example(self):
        told = ask(*FOUR, example(["e"], []), SHOWN)
        self.assertEqual(told[4], [-7])
        self.assertEqual(told[5], shown_of(*[([word], []) for word in "abcd"]))

    def test_no_text_comes_ahead_of_no_room(self):
        long = text(*["a"] * 7)
        told = ask(*FOUR, raw_example([97], []), raw_example([], [97]), raw_example(long, long), SHOWN)
        self.assertEqual(told[4:7], [[-4]] * 3)
        self.assertEqual(told[7], shown_of(*[([word], []) for word in "abcd"]))

    def test_room_after_a_drop(self):
        told = ask(*FOUR, drop(1), example(["e"], ["f"]), example(["g"], []), SHOWN)
        self.assertEqual(told[4:7], [[3], [4], [-7]])
        self.assertEqual(told[7], shown_of((["a"], []), (["c"], []), (["d"], []), (["e"], ["f"])))


class DropCall(unittest.TestCase):
    """The call drop."""

    def test_each_place(self):
        for place in range(4):
            left = [([word], []) for word in "abcd"]
            left.pop(place)
            self.assertEqual(ask(*FOUR, drop(place), SHOWN)[4:], [[3], shown_of(*left)])

    def test_until_none_is_left(self):
        told = ask(*FOUR[:3], drop(1), drop(1), drop(0), SHOWN, drop(0))
        self.assertEqual(told[3:], [[2], [1], [0], [0], [-2]])

    def test_no_such_example(self):
        for count in range(5):
            kept = shown_of(*[([word], []) for word in "abcd"[:count]])
            for place in (-TEN_18, -4, -1, count, count + 1, TEN_18):
                self.assertEqual(ask(*FOUR[:count], drop(place), SHOWN)[count:], [[-2], kept])

    def test_what_is_dropped_no_longer_counts(self):
        told = ask(example(["a"], []), example(["b"], ["bb"]), drop(0), FAMILY, FIND)
        alone = ask(example(["b"], ["bb"]), FAMILY, FIND)
        self.assertEqual(told[3:], alone[1:])


class ShownCall(unittest.TestCase):
    """The call shown."""

    def test_none(self):
        self.assertEqual(ask(SHOWN), [[0]])

    def test_texts_without_lines_and_lines_without_letters(self):
        told = ask(raw_example([], []), raw_example([10], []), raw_example([10, 10], [97, 10, 10]), SHOWN)
        self.assertEqual(told[3], [3, 0, 0, 1, 10, 0, 2, 10, 10, 3, 97, 10, 10])

    def test_four(self):
        full = ["abcdefghijklmnop"] * 6
        told = ask(example(["ab"], ["c"]), example([], full), example(full, [""]), example(["z"], []), SHOWN)
        whole = [97, 98, 99, 100, 101, 102, 103, 104, 105, 106, 107, 108, 109, 110, 111, 112, 10] * 6
        wanted = [4, 3, 97, 98, 10, 2, 99, 10, 0, 102, *whole, 102, *whole, 1, 10, 2, 122, 10, 0]
        self.assertEqual(told[4], wanted)

    def test_asking_changes_nothing(self):
        told = ask(example(["ab", "c"], ["ab"]), SHOWN, FAMILY, FIND, SHOWN, FAMILY, FIND)
        self.assertEqual(told[1:4], told[4:])


if __name__ == "__main__":
    unittest.main()
