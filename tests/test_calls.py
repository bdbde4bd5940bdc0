"""How calls are read and answered, and the calls example, drop and shown."""

import time
import unittest
from itertools import permutations

from asking import ALL, FAMILY, FIND, NEAREST, SHOWN
from asking import apart, ask, ask_of, check, drop, example, far, raw_example, raw_far, text
from linescriptsyard.examples import answers

TEN_18 = 10 ** 18
FOUR = [example([word], []) for word in ("a", "b", "c", "d")]


def shown_of(*pairs):
    """What shown answers where these examples are held."""
    answer = [len(pairs)]
    for before, after in pairs:
        for lines in (before, after):
            told = text(*lines)
            answer += [len(told)] + told
    return answer


class Lists(unittest.TestCase):
    """How calls are handed in and answers given back."""

    def test_worked_example(self):
        before = [97, 98, 10, 99, 10, 97, 98, 10]
        after = [97, 98, 10, 97, 98, 10]
        line_2 = [105, 102, 32, 108, 105, 110, 101, 32, 50, 32, 100, 101, 108, 101, 116, 101, 32, 59]
        alone = [100, 101, 108, 101, 116, 101, 32, 59]
        calls = [0, 8, *before, 6, *after, 3, 4, 8, 8, *before, 6, *after, 6, 18, *line_2, 6, 8, *alone, 7]
        told = [1, 1, 4, 19, 11, 209, 6]
        told += [19, 1, 17, 105, 102, 32, 105, 115, 32, 99, 32, 100, 101, 108, 101, 116, 101, 32, 59, 10]
        told += [2, 1, 2, 3, 1, 1, 0, 3, 1, 0, 2]
        told += [21, 0, 19, 105, 102, 32, 108, 105, 110, 101, 32, 50, 32, 100, 101, 108, 101, 116, 101, 32, 59, 10]
        self.assertEqual(answers(calls), told)

    def test_each_call_alone(self):
        self.assertEqual(answers([0, 0, 0]), [1, 1])
        self.assertEqual(answers([0, 2, 97, 10, 0]), [1, 1])
        self.assertEqual(answers([0, 0, 2, 97, 10]), [1, 1])
        self.assertEqual(answers([1, 0]), [1, -2])
        self.assertEqual(answers([2]), [1, 0])
        self.assertEqual(answers([3]), [4, 3, 1, 3, 0])
        self.assertEqual(answers([4]), [2, 0, 0])
        self.assertEqual(answers([5])[:4], [51, 3, 9, 100])
        self.assertEqual(answers([6, 0]), [2, 1, 0])
        self.assertEqual(answers([6, 1, 59]), [3, 0, 3, 0])
        self.assertEqual(answers([7]), [11, 0, 9, 100, 101, 108, 101, 116, 101, 32, 59, 10])
        self.assertEqual(answers([8, 0, 0]), [2, 0, 0])
        self.assertEqual(answers([8, 2, 97, 10, 0]), [2, 1, 0])
        self.assertEqual(answers([8, 0, 1, 97]), [1, -4])

    def test_several_calls(self):
        calls = [2, 0, 1, 10, 0, 0, 0, 3, 97, 98, 10, 2, 1, 0, 2]
        told = [1, 0, 1, 1, 1, 2, 9, 2, 1, 10, 0, 0, 3, 97, 98, 10, 1, 1, 6, 1, 0, 3, 97, 98, 10]
        self.assertEqual(answers(calls), told)

    def test_ten_calls(self):
        calls = [1, 0, 0, 1, 97, 0, 1, 0, 4, 3, 2, 0, 0, 0, 2, 1, 0, 2]
        told = [1, -2, 1, -4, 1, -2, 2, 0, 0, 4, 3, 1, 3, 0, 1, 0, 1, 1, 3, 1, 0, 0, 1, 0, 1, 0]
        self.assertEqual(answers(calls), told)

    def test_a_refusal_is_its_number_alone(self):
        self.assertEqual(answers([0, 1, 97, 0]), [1, -4])
        self.assertEqual(answers([1, 7]), [1, -2])
        self.assertEqual(ask(*FOUR, example([], []))[4], [-7])
        self.assertEqual(ask(example([], ["a"]), FIND), [[1], [-8]])

    def test_an_object_is_new_each_time(self):
        answers([0, 0, 0])
        self.assertEqual(answers([2]), [1, 0])

    def test_nothing_handed_in_is_changed(self):
        many = [
            [0, 8, 97, 98, 10, 99, 10, 97, 98, 10, 6, 97, 98, 10, 97, 98, 10, 2, 3, 4, 1, 0, 1, 0],
            [0, 1, 97, 0, 2, 0, 0, 0, 2, 4, 3],
            [number for call in FOUR + FOUR + [FIND, SHOWN] for number in call],
            [number for call in FOUR + [ALL, NEAREST, FIND, check("if a"), far(["a"], ["b"])] for number in call],
            [6, 8, 107, 101, 101, 112, 32, 59, 35, 10, 8, 2, 97, 10, 1, 97, 5, 7],
        ]
        for calls in many:
            kept = list(calls)
            first = answers(calls)
            self.assertEqual(calls, kept)
            first_kept = list(first)
            self.assertEqual(answers(calls), first_kept)
            self.assertEqual(first, first_kept)
            self.assertEqual(calls, kept)

    def test_answers_are_whole_numbers_in_a_list(self):
        first = [0, 2, 97, 10, 2, 98, 10]
        calls = first + [2, 3, 4, 1, 5, 1, 0, 0, 1, 97, 0]
        more = first + [5, 7, 6, 0, 6, 1, 59, 6, 5000, *[32] * 5000, 8, 2, 97, 10, 2, 98, 10, 8, 1, 97, 0]
        for asked, firsts in [(calls, [1, 1, 9, 1, -2, 0, -4]), (more, [1, 10, 0, 1, 0, 0, 2, -4])]:
            told = answers(asked)
            self.assertIs(type(told), list)
            self.assertEqual({type(number) for number in told}, {int})
            self.assertEqual([answer[0] for answer in apart(told)], firsts)

    def test_no_other_answer_has_a_number_below_0(self):
        asked = [SHOWN, FAMILY, FIND, ALL, NEAREST, check("keep ;"), check(";"), far(["a"], ["b"])]
        for pairs in ([], [(["a"], ["b"])], [(["a", "b"], ["b", "a"]), ([], [])]):
            for answer in ask_of(pairs, *asked):
                self.assertGreaterEqual(min(answer), 0)


class ExampleCall(unittest.TestCase):
    """The call example."""

    def refused(self, told):
        """Look that bytes are refused as either text, and that nothing is put."""
        good = text("a")
        told_first = ask(example(["b"], []), raw_example(told, good), raw_example(good, told), SHOWN)
        self.assertEqual(told_first, [[1], [-4], [-4], shown_of((["b"], []))])

    def taken(self, *lines):
        """Look that a text of these lines is taken as either text."""
        told = ask(example(lines, ["a"]), example(["a"], lines), SHOWN)
        self.assertEqual(told, [[1], [2], shown_of((lines, ["a"]), (["a"], lines))])

    def test_counts_up(self):
        self.assertEqual(ask(*FOUR), [[1], [2], [3], [4]])

    def test_the_same_example_may_be_put_again(self):
        self.assertEqual(ask(FOUR[0], FOUR[0]), [[1], [2]])

    def test_bytes_that_are_no_letters(self):
        for byte in range(256):
            if byte != 10 and not 97 <= byte <= 122:
                self.refused([97, byte, 98, 10])
                self.refused([byte, 10])
                self.refused([97, 10, byte])

    def test_all_letters(self):
        self.taken("abcdefghijklm", "nopqrstuvwxyz")

    def test_a_last_line_that_is_not_ended(self):
        self.refused([97])
        self.refused([10, 97])
        self.refused([97, 10, 97, 98])

    def test_letters_of_a_line(self):
        self.taken("a" * 16)
        self.taken("", "abcdefghijklmnop", "b")
        self.refused(text("a" * 17))
        self.refused(text("a", "b" * 17, "c"))
        self.refused([97] * 16)
        self.refused([97] * 17)

    def test_lines_of_an_example(self):
        self.taken(*["a"] * 6)
        self.taken(*[""] * 6)
        self.taken(*["abcdefghijklmnop"] * 6)
        for count in (7, 24, 25, 60):
            self.refused(text(*["a"] * count))
            self.refused(text(*[""] * count))
        self.refused(text(*["a"] * 6) + [97])

    def test_the_longest_lists(self):
        self.refused([97] * 8192)
        self.refused([10] * 8192)
        self.refused([97, 10] * 4096)
        self.refused(([97] * 15 + [10]) * 512)
        self.refused([0] * 8192)
        self.assertEqual(ask(raw_example([10] * 8192, [10] * 8192), SHOWN), [[-4], [0]])

    def test_the_script_s_own_words_may_be_lines(self):
        self.taken("if", "none", "delete")

    def test_a_fifth_example(self):
        told = ask(*FOUR, example(["e"], []), SHOWN)
        self.assertEqual(told[4], [-7])
        self.assertEqual(told[5], shown_of(*[([word], []) for word in "abcd"]))

    def test_no_text_comes_ahead_of_no_room(self):
        long = text(*["a"] * 7)
        told = ask(*FOUR, raw_example([97], []), raw_example([], [97]), raw_example(long, long), SHOWN)
        self.assertEqual(told[4:7], [[-4]] * 3)
        self.assertEqual(told[7], shown_of(*[([word], []) for word in "abcd"]))

    def test_room_after_a_drop(self):
        told = ask(*FOUR, drop(1), example(["e"], ["f"]), example(["g"], []), SHOWN)
        self.assertEqual(told[4:7], [[3], [4], [-7]])
        self.assertEqual(told[7], shown_of((["a"], []), (["c"], []), (["d"], []), (["e"], ["f"])))


class DropCall(unittest.TestCase):
    """The call drop."""

    def test_each_place(self):
        for place in range(4):
            left = [([word], []) for word in "abcd"]
            left.pop(place)
            self.assertEqual(ask(*FOUR, drop(place), SHOWN)[4:], [[3], shown_of(*left)])

    def test_until_none_is_left(self):
        told = ask(*FOUR[:3], drop(1), drop(1), drop(0), SHOWN, drop(0))
        self.assertEqual(told[3:], [[2], [1], [0], [0], [-2]])

    def test_no_such_example(self):
        for count in range(5):
            kept = shown_of(*[([word], []) for word in "abcd"[:count]])
            for place in (-TEN_18, -4, -1, count, count + 1, TEN_18):
                self.assertEqual(ask(*FOUR[:count], drop(place), SHOWN)[count:], [[-2], kept])

    def test_what_is_dropped_no_longer_counts(self):
        told = ask(example(["a"], []), example(["b"], ["bb"]), drop(0), FAMILY, FIND)
        alone = ask(example(["b"], ["bb"]), FAMILY, FIND)
        self.assertEqual(told[3:], alone[1:])


class ShownCall(unittest.TestCase):
    """The call shown."""

    def test_none(self):
        self.assertEqual(ask(SHOWN), [[0]])

    def test_texts_without_lines_and_lines_without_letters(self):
        told = ask(raw_example([], []), raw_example([10], []), raw_example([10, 10], [97, 10, 10]), SHOWN)
        self.assertEqual(told[3], [3, 0, 0, 1, 10, 0, 2, 10, 10, 3, 97, 10, 10])

    def test_four(self):
        full = ["abcdefghijklmnop"] * 6
        told = ask(example(["ab"], ["c"]), example([], full), example(full, [""]), example(["z"], []), SHOWN)
        whole = [97, 98, 99, 100, 101, 102, 103, 104, 105, 106, 107, 108, 109, 110, 111, 112, 10] * 6
        wanted = [4, 3, 97, 98, 10, 2, 99, 10, 0, 102, *whole, 102, *whole, 1, 10, 2, 122, 10, 0]
        self.assertEqual(told[4], wanted)

    def test_asking_changes_nothing(self):
        told = ask(example(["ab", "c"], ["ab"]), SHOWN, FAMILY, FIND, SHOWN, FAMILY, FIND)
        self.assertEqual(told[1:4], told[4:])


class NothingChanged(unittest.TestCase):
    """Refused calls, and calls that only ask, leave the object as it was."""

    PAIRS = [(["a", "b"], ["b"]), (["c"], [])]
    ASKING = [
        SHOWN, FAMILY, FIND, ALL, NEAREST, check("delete ;"), check("keep"), check("!"), check(" " * 4097),
        check("trade ; keep ; bring ;"), check("swap a abcdefgh ; swap a abcdefgh ;"), far(["a"], ["b"]),
    ]
    REFUSED = [
        raw_example([97], []), raw_example([], [97]), raw_example(text(*["a"] * 7), []), drop(-1), drop(2),
        drop(TEN_18), raw_far([97], []), raw_far([], [0]), raw_far(text(*["a"] * 25), text("a" * 17)),
    ]

    def test_one_call_ahead_of_another(self):
        alone = [ask_of(self.PAIRS, call)[0] for call in self.ASKING]
        for call in self.ASKING + self.REFUSED:
            for asked, wanted in zip(self.ASKING, alone):
                told = ask_of(self.PAIRS, call, asked, SHOWN)
                self.assertEqual(told[1:], [wanted, shown_of(*self.PAIRS)], (call, asked))

    def test_a_refusal_where_four_are_held(self):
        held = [([word], []) for word in "abcd"]
        wanted = ask_of(held, SHOWN, FAMILY, FIND, ALL, NEAREST)
        for call in (FOUR[0], raw_example([97], []), drop(4), raw_far([97], [])):
            self.assertEqual(ask_of(held, call, SHOWN, FAMILY, FIND, ALL, NEAREST)[1:], wanted)

    def test_any_order(self):
        asked = {"find": FIND, "all": ALL, "check": check("delete ;"), "nearest": NEAREST, "far": far(["a"], ["b"])}
        pair = (["ab", "c"], ["c"])
        alone = {name: ask_of([pair], call)[0] for name, call in asked.items()}
        for order in permutations(asked):
            told = ask_of([pair], *[asked[name] for name in order])
            self.assertEqual(told, [alone[name] for name in order])

    def test_ten_calls_between_which_examples_come_and_go(self):
        told = ask(NEAREST, example(["a"], ["b"]), NEAREST, example(["a"], []), check("delete ;"), ALL, drop(0),
                   check("delete ;"), ALL, NEAREST)
        delete = [9] + list(b"delete ;\n")
        fitting = [5, *delete]
        for address in ("last", "line 1", "is a", "has a"):
            script = f"if {address} delete ;\n".encode()
            fitting += [len(script), *script]
        change = [11] + list(b"change b ;\n")
        self.assertEqual(told, [[0, *delete], [1], [0, *change], [2], [1, 1, 1, 0], [0], [1], [1, 1, 0], fitting,
                                [0, *delete]])


class TheGreatest(unittest.TestCase):
    """The greatest that may be handed in is answered in a few seconds."""

    FULL = [
        (["a", "b", "c", "d", "e", "f"], ["g", "h", "i", "j", "k", "l"]),
        (["ab", "bc", "cd", "de", "ef", "fa"], ["gh", "hi", "ij", "jk", "kl", "lg"]),
        (["abcdefabcdefabcd"] * 6, ["ghijklghijklghij"] * 6),
        (["a", "a", "b", "b", "a", "b"], ["g", "h", "g", "g", "g", "g"]),
    ]

    def look(self, *calls):
        """Ask these calls behind four full examples, and look how long it takes."""
        start = time.process_time()
        told = ask_of(self.FULL, *calls)
        self.assertLess(time.process_time() - start, 8)
        return told

    def test_a_family_of_4029_commands(self):
        self.assertEqual(self.look(FAMILY)[0], [51, 79, 4029, 40])
        for call in (FAMILY, FIND, ALL, NEAREST):
            told = self.look(*[call] * 6)
            self.assertEqual(told, told[:1] * 6)
        self.look(FAMILY, FIND, ALL, NEAREST, FIND, NEAREST)

    def test_the_longest_scripts(self):
        script = "if not not from 1 to 99 swap abcdefgh abcdefgh ;\n" * 16
        script += " " * (4096 - len(script))
        told = self.look(check(script), check(script), check(script))
        self.assertEqual(told, told[:1] * 3)
        self.assertEqual(told[0][:2], [1, 0])
        for byte in (32, 35, 48, 59, 97, 255):
            self.assertEqual(len(self.look(check([byte] * 4096), check([byte] * 8192))), 2)

    def test_the_longest_texts(self):
        full = [str(letter) * 16 for letter in "abcdefghijklmnopqrstuvwx"]
        self.assertEqual(self.look(*[far(full, full[::-1])] * 6), [[46, 1]] * 6)
        self.assertEqual(self.look(raw_far([10] * 8192, [97] * 8192)), [[-4]])


if __name__ == "__main__":
    unittest.main()
