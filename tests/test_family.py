"""The call family: which addresses, deeds and commands there are, and how many are useful."""

import random
import unittest

import oracle
from asking import FAMILY, ask_of, found
from making import made_pairs


def family(*pairs):
    """What family answers of these examples."""
    return ask_of(pairs, FAMILY)[0]


class Counts(unittest.TestCase):
    """How many addresses, deeds and commands there are."""

    def test_no_examples(self):
        self.assertEqual(family(), [3, 1, 3, 0])

    def test_texts_without_lines(self):
        self.assertEqual(family(([], [])), [3, 1, 3, 0])
        # A line after, but no line of before that a command could be done on.
        self.assertEqual(family(([], ["ab"])), [3, 4, 12, 0])

    def test_lines_without_letters(self):
        # all, last, line 1, not last, not line 1; delete, change, before, after.
        self.assertEqual(family(([""], ["a"])), [5, 4, 20, 12])
        self.assertEqual(family((["", ""], [""])), [7, 1, 7, 6])

    def test_worked_example(self):
        self.assertEqual(family((["ab", "c", "ab"], ["ab", "ab"])), [19, 11, 209, 6])

    def test_line_numbers_go_up_to_the_longest_text_of_before(self):
        empty = [[""] * count for count in range(7)]
        for count in range(7):
            self.assertEqual(family((empty[count], []))[0], 1 + 2 * (1 + count))
        self.assertEqual(family((empty[2], empty[6]), (empty[5], empty[1]), (empty[3], []))[0], 13)

    def test_how_long_lines_may_be(self):
        for count in range(1, 17):
            line = "abcdefghijklmnop"[:count]
            signs = min(count, 6)
            is_word = 1 if count <= 8 else 0
            addresses = 1 + 2 * (2 + is_word + signs)
            self.assertEqual(family(([line], []))[:3], [addresses, 1 + signs, addresses * (1 + signs)])
            self.assertEqual(family(([], [line]))[:3], [3, 1 + 3 * is_word, 3 + 9 * is_word])

    def test_the_own_words_are_no_letters(self):
        for word in oracle.OWN:
            signs = min(len(set(word)), 6)
            self.assertEqual(family(([word], []))[0], 1 + 2 * (2 + signs))
            self.assertEqual(family(([], [word]))[1], 1)
        own = [oracle.OWN[place:place + 6] for place in range(0, 21, 6)]
        self.assertEqual(family(*[(lines, lines) for lines in own])[0], 1 + 2 * (1 + 6 + 6))

    def test_words_beside_the_own_ones_are_letters(self):
        for word in ("i", "iff", "als", "lines", "fro", "t", "too", "lasts", "ha", "iss", "no", "nots", "deletes",
                     "befor", "afters", "changes", "swa", "firsts", "kee", "bringa", "trades", "ski", "stops",
                     "nonea", "remark", "text", "put"):
            signs = min(len(set(word)), 6)
            self.assertEqual(family(([word], []))[0], 1 + 2 * (3 + signs))
            self.assertEqual(family(([], [word]))[1], 4)

    def test_each_line_once(self):
        self.assertEqual(family((["a", "a"], ["b", "b", "b"]), (["a"], ["b"]))[:2], [1 + 2 * (1 + 2 + 1 + 1), 1 + 3 + 2])

    def test_letters_of_lines_that_are_no_words_count(self):
        # 9 letters and an own word: no lines, but letters.
        self.assertEqual(family((["aaaaaaaab"], ["cccccccccc"]))[:2], [1 + 2 * (2 + 2), 1 + 2 * 2])
        self.assertEqual(family((["if"], ["is"]))[:2], [1 + 2 * (2 + 2), 1 + 2 + 3])

    def test_swaps(self):
        # a: b, c, none; b: c, none.
        self.assertEqual(family((["aaaaaaaaaab"], ["bbbbbbbbbbc"]))[1], 1 + 3 + 2)
        # a, b: none alone, as no letters stand in the text of after.
        self.assertEqual(family((["aaaaaaaaaab"], [""]))[1], 1 + 2)

    def test_the_greatest_family(self):
        before = ["a", "b", "c", "d", "e", "f"]
        after = ["g", "h", "i", "j", "k", "l"]
        pairs = [(before, after), (["ab", "bc", "cd", "de", "ef", "fa"], ["gh", "hi", "ij", "jk", "kl", "lg"])]
        self.assertEqual(family(*pairs)[:3], [51, 79, 4029])
        more = pairs + [(["m", "n"], ["o", "p"]), (["abc", "q"], ["r", "ghi"])]
        self.assertEqual(family(*more)[:3], [51, 79, 4029])


class Chosen(unittest.TestCase):
    """Which lines and letters are the first ones: what can be found tells it."""

    def test_the_first_twelve_lines_of_after(self):
        one = ["a", "b", "c", "d", "e", "f"]
        two = ["aa", "bb", "cc", "dd", "ee", "ff"]
        first = [(["q"], ["z"]), (one, one), (two, two)]
        self.assertEqual(found(first), "if is q change z ;\n")
        self.assertEqual(found(first[1:] + first[:1]), -8)

    def test_the_first_twelve_lines_of_before(self):
        one = ["aa", "bb", "cc", "dd", "ee", "ff"]
        two = ["ab", "bc", "cd", "de", "ef", "fa"]
        # The line ac is told from the others by is alone.
        first = [(["ab", "ac", "bc"], ["ab", "bc"]), (one, one), (two, two), (["a", "c"], ["a", "c"])]
        self.assertEqual(found(first), "if is ac delete ;\n")
        self.assertEqual(found(first[1:] + first[:1]), -8)

    def test_the_first_six_letters_of_before(self):
        line = "abcdefghij"
        for sign in "abcdef":
            self.assertEqual(found([([line], [line.replace(sign, "")])]), f"swap {sign} none ;\n")
        for sign in "ghij":
            self.assertEqual(found([([line], [line.replace(sign, "")])]), -8)
        # The first from a to z, not the first that stand in the texts.
        self.assertEqual(found([([line[::-1]], ["jihgfedcb"])]), "swap a none ;\n")
        self.assertEqual(found([([line[::-1]], ["ihgfedcba"])]), -8)

    def test_the_first_six_letters_of_after(self):
        line = "hijklmnopq"
        self.assertEqual(found([([line], ["aijklmnopq"])]), "swap h a ;\n")
        self.assertEqual(found([([line], ["zijklmnopq"])]), -8)
        self.assertEqual(found([(["hhhhhhhhhh"], ["zzzzzzzzzz"])]), "swap h z ;\n")

    def test_line_addresses(self):
        lines = ["a"] * 6
        for number in range(1, 6):
            after = list(lines)
            after[number - 1] = "b"
            self.assertEqual(found([(lines, after)]), f"if line {number} change b ;\n")
        self.assertEqual(found([(lines, lines[:5] + ["b"])]), "if last change b ;\n")

    def test_not_addresses(self):
        self.assertEqual(found([(["a", "b", "c"], ["b"])]), "if not is b delete ;\n")
        self.assertEqual(found([(["a", "ab", "c"], ["a", "ab"])]), "if last delete ;\n")
        self.assertEqual(found([(["a", "a", "a"], ["a"])]), "if not last delete ;\n")
        self.assertEqual(found([(["", "", ""], [""])]), "if not last delete ;\n")


class Useful(unittest.TestCase):
    """How many commands are useful."""

    def test_nearer_to_one_and_farther_from_none(self):
        # delete at all, last, line 1, is a, has a.
        self.assertEqual(family((["a"], []))[3], 5)
        # Each of these takes the line of the second example away, too.
        self.assertEqual(family((["a"], []), (["a"], ["a"]))[3], 0)
        # delete at line 3, is b, has b, not is a, not has a: last is left,
        # as it takes a line of the second example away, too.
        self.assertEqual(family((["a", "a", "b"], ["a", "a"]), (["a", "a"], ["a", "a"]))[3], 5)

    def test_nearer_to_one_of_them_alone(self):
        # Nearer to one, just as far from the other: delete at line 2, is a,
        # has a, not line 1, not is b, not has b.
        self.assertEqual(family((["b", "a"], ["b"]), (["b"], ["b"]))[3], 6)

    def test_just_as_far_is_not_useful(self):
        # delete is nearer by one line at all, last, line 1, is b, has b;
        # what swap makes of the line is as far from it as the line was.
        self.assertEqual(family((["b"], ["aaaaaaaaa"]))[3], 5)
        self.assertEqual(family((["a"], ["a"]))[3], 0)

    def test_forty_at_most(self):
        pairs = (["b", "bb"], ["a", ""])
        self.assertEqual(len(oracle.all_useful([pairs])), 63)
        self.assertEqual(family(pairs)[3], 40)

    def test_around_forty(self):
        rng = random.Random(40)
        seen = set()
        for _ in range(300):
            before = ["".join(rng.choice("ab") for _ in range(rng.randint(0, 2))) for _ in range(rng.randint(1, 3))]
            after = ["".join(rng.choice("ab") for _ in range(rng.randint(0, 2))) for _ in range(rng.randint(1, 2))]
            count = len(oracle.all_useful([(before, after)]))
            if 36 <= count <= 44:
                seen.add(count)
                self.assertEqual(family((before, after))[3], min(count, 40))
        self.assertTrue(min(seen) < 40 < max(seen) and 40 in seen, seen)


class ManyExamples(unittest.TestCase):
    """The counts of many examples that are made here."""

    def test_counts(self):
        for pairs in made_pairs(1, 150):
            parts = (oracle.addresses(pairs), oracle.deeds(pairs), oracle.commands(pairs), oracle.all_useful(pairs)[:40])
            self.assertEqual(family(*pairs), [len(part) for part in parts], pairs)


if __name__ == "__main__":
    unittest.main()
