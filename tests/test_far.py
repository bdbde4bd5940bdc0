"""The call far: how far two texts are from each other, and point 3 of the promises."""

import random
import unittest
from itertools import combinations, product

import oracle
from asking import SHOWN, ask, example, far, raw_far, text


def told(one, other):
    """What far answers of two texts."""
    return ask(far(one, other))[0]


def tried(one, other):
    """How many lines two short texts have in common at most: every choice of both is tried."""
    return max(size for size in range(len(one) + 1) if any(
        some == others for some in combinations(one, size) for others in combinations(other, size)))


class Far(unittest.TestCase):
    """How far, and how many lines in common."""

    def test_worked_example(self):
        self.assertEqual(told(["ab", "c", "ab"], ["ab", "ab"]), [1, 2])

    def test_texts_without_lines(self):
        self.assertEqual(ask(raw_far([], [])), [[0, 0]])
        self.assertEqual(told([], ["a", "b"]), [2, 0])
        self.assertEqual(told(["a", "b", ""], []), [3, 0])

    def test_lines_without_letters(self):
        self.assertEqual(told([""], []), [1, 0])
        self.assertEqual(told([""], [""]), [0, 1])
        self.assertEqual(told(["", ""], [""]), [1, 1])
        self.assertEqual(told(["", "a", ""], ["", ""]), [1, 2])
        self.assertEqual(told([""], ["a"]), [2, 0])

    def test_chosen_texts(self):
        self.assertEqual(told(["a"], ["b"]), [2, 0])
        self.assertEqual(told(["a", "b"], ["b", "a"]), [2, 1])
        self.assertEqual(told(["a", "b", "c"], ["c", "b", "a"]), [4, 1])
        self.assertEqual(told(["a", "b", "c", "d"], ["b", "d"]), [2, 2])
        self.assertEqual(told(["a", "b", "c", "d"], ["d", "a", "b", "c"]), [2, 3])
        self.assertEqual(told(["a", "a", "b"], ["a", "b", "b"]), [2, 2])
        self.assertEqual(told(["a"] * 5, ["a"] * 3), [2, 3])
        # The first line of the one that stands in the other is not to be taken.
        self.assertEqual(told(["d", "a", "b", "c"], ["a", "b", "c", "d"]), [2, 3])

    def test_whole_lines_count(self):
        self.assertEqual(told(["ab"], ["a", "b"]), [3, 0])
        self.assertEqual(told(["ab"], ["abc"]), [2, 0])
        self.assertEqual(told(["a", "b"], ["ab"]), [3, 0])

    def test_16_letters_and_24_lines(self):
        full = ["abcdefghijklmnop"] * 24
        self.assertEqual(told(full, full), [0, 24])
        self.assertEqual(told(full, []), [24, 0])
        self.assertEqual(told(full, ["abcdefghijklmnop"]), [23, 1])
        self.assertEqual(told([""] * 24, ["", "a"] * 12), [24, 12])
        self.assertEqual(told(["a"] * 24, ["b"] * 24), [48, 0])

    def test_the_script_s_own_words_are_lines_too(self):
        self.assertEqual(told(["if", "none"], ["none"]), [1, 1])

    def test_nothing_is_put(self):
        self.assertEqual(ask(example(["a"], []), far(["b"], ["c"]), SHOWN)[2], [1, 2, 97, 10, 0])

    def test_all_short_texts(self):
        texts = [list(lines) for size in range(4) for lines in product(["", "a", "b"], repeat=size)]
        for one in texts:
            for other in texts:
                wanted = tried(one, other)
                self.assertEqual(told(one, other), [len(one) + len(other) - 2 * wanted, wanted])

    def test_just_what_the_document_says(self):
        rng = random.Random(15)
        for _ in range(300):
            signs = rng.choice(["ab", "abc", "abcdef", "abcdefghijkl"])
            one, other = [[rng.choice(signs) for _ in range(rng.randint(0, 24))] for _ in range(2)]
            wanted = oracle.common(one, other)
            self.assertEqual(told(one, other), [len(one) + len(other) - 2 * wanted, wanted], (one, other))


class NoText(unittest.TestCase):
    """-4 where either text is not told as one."""

    def refused(self, bad):
        """Look that far refuses these bytes in either place, and in both."""
        for good in ([], text("a"), text("a", "", "b")):
            self.assertEqual(ask(raw_far(bad, good), raw_far(good, bad), raw_far(bad, bad)), [[-4]] * 3, bad)

    def test_bytes_that_are_no_letters(self):
        for byte in range(256):
            if byte != 10 and not 97 <= byte <= 122:
                self.refused([byte])
                self.refused([97, byte, 10])
                self.refused([97, 10, byte, 10])

    def test_a_last_line_that_is_not_ended(self):
        self.refused([97])
        self.refused([97, 10, 98])
        self.refused([10, 10, 97, 98])
        self.refused(text(*["a"] * 23) + [97])
        self.refused(text(*["a"] * 24) + [97])

    def test_17_letters(self):
        self.refused(text("a" * 17))
        self.refused(text("a", "b" * 17, "c"))
        self.refused([97] * 16)

    def test_25_lines(self):
        self.refused(text(*["a"] * 25))
        self.refused(text(*[""] * 25))

    def test_the_longest_lists(self):
        for byte in (0, 10, 97, 255):
            self.refused([byte] * 8192)

    def test_other_calls_go_on(self):
        told_all = ask(example(["a"], ["b"]), raw_far([97], []), SHOWN, far(["a"], ["a"]))
        self.assertEqual(told_all, [[1], [-4], [1, 2, 97, 10, 2, 98, 10], [0, 1]])


class PointThree(unittest.TestCase):
    """Either way alike, 0 just if the same, and no farther than by way of a third one."""

    def made(self, rng, most):
        """A text of short lines."""
        signs = rng.choice([["a", ""], ["a", "b"], ["a", "b", "ab", ""], list("abcdefgh")])
        return [rng.choice(signs) for _ in range(rng.randint(0, most))]

    def look(self, one, other, third):
        """Look at what far answers of these three texts."""
        answers = ask(far(one, other), far(other, one), far(one, third), far(third, other), far(one, one))
        there, back, ahead, behind, same = [answer[0] for answer in answers]
        self.assertEqual(answers[0], answers[1])
        self.assertEqual(there == 0, one == other, (one, other))
        self.assertLessEqual(there, ahead + behind, (one, other, third))
        self.assertEqual((back, same), (there, 0))
        self.assertEqual(answers[4][1], len(one))

    def test_made_texts(self):
        rng = random.Random(16)
        for _ in range(1500):
            self.look(self.made(rng, 24), self.made(rng, 24), self.made(rng, 24))
            self.look(self.made(rng, 3), self.made(rng, 3), self.made(rng, 3))

    def test_texts_that_differ_little(self):
        rng = random.Random(17)
        for _ in range(500):
            one = self.made(rng, 23)
            place = rng.randint(0, len(one))
            other = one[:place] + ["c"] + one[place:]
            self.look(one, other, one[:place] + one[place + 1:])
            self.assertEqual(told(one, other), [1, len(one)])


if __name__ == "__main__":
    unittest.main()
