"""The calls all and nearest: scripts of one command of the family."""

import random
import unittest

import oracle
from asking import ALL, FIND, NEAREST, ask, ask_of, check, example, scripts_in
from linescriptsyard.examples import Example
from linescriptsyard.fitting import far_from, far_from_all, fits_all, nearest_of
from linescriptsyard.parsing import read_script
from making import made_pairs, made_text


def all_of(*pairs):
    """What all answers of these examples: how many fit, and the scripts that are told."""
    answer = ask_of(pairs, ALL)[0]
    return answer[0], scripts_in(answer[1:])


def nearest(*pairs):
    """What nearest answers of these examples: how far, and the script."""
    answer = ask_of(pairs, NEAREST)[0]
    scripts = scripts_in(answer[1:])
    assert len(scripts) == 1
    return answer[0], scripts[0]


class All(unittest.TestCase):
    """The call all."""

    def test_numbers(self):
        self.assertEqual(ask(example(["", ""], []), ALL)[1], [1, 9, 100, 101, 108, 101, 116, 101, 32, 59, 10])
        self.assertEqual(ask(example([], ["a"]), ALL)[1], [0])

    def test_no_examples(self):
        self.assertEqual(all_of(), (3, ["delete ;\n", "if last delete ;\n", "if not last delete ;\n"]))

    def test_none(self):
        self.assertEqual(all_of(([], ["a"])), (0, []))
        self.assertEqual(all_of((["a", "b", "c"], ["x", "y", "z"])), (0, []))
        self.assertEqual(all_of((["a"], ["b"]), (["a"], ["c"])), (0, []))

    def test_two_commands_that_fit_do_not_count(self):
        pairs = [(["b"], ["", "a"])]
        self.assertEqual(ask_of(pairs, FIND)[0][0], 2)
        self.assertEqual(all_of(*pairs), (0, []))

    def test_one(self):
        self.assertEqual(all_of((["", ""], [])), (1, ["delete ;\n"]))
        self.assertEqual(all_of((["a", "b"], ["a"]), (["b", "a"], ["b"]), (["b"], [])), (1, ["if last delete ;\n"]))

    def test_worked_example(self):
        wanted = ["if line 2 delete ;\n", "if is c delete ;\n", "if has c delete ;\n",
                  "if not is ab delete ;\n", "if not has a delete ;\n", "if not has b delete ;\n"]
        self.assertEqual(all_of((["ab", "c", "ab"], ["ab", "ab"])), (6, wanted))

    def test_ten(self):
        places = ["", "if last ", "if line 1 ", "if is a ", "if has a "]
        wanted = [place + deed + " ;\n" for deed in ("change b", "swap a b") for place in places]
        self.assertEqual(all_of((["a"], ["b"])), (10, wanted))

    def test_eleven(self):
        wanted = ["if line 1 change c ;\n", "if is b change c ;\n", "if has b change c ;\n",
                  "if not last change c ;\n", "if not line 2 change c ;\n",
                  "swap b c ;\n", "if line 1 swap b c ;\n", "if is b swap b c ;\n", "if has b swap b c ;\n",
                  "if not last swap b c ;\n"]
        self.assertEqual(all_of((["b", ""], ["c", ""])), (11, wanted))

    def test_many(self):
        # What does nothing fits: each of five deeds at four addresses that
        # hold nowhere; change a at the five others.
        wanted = [f"if not {address} delete ;\n" for address in ("last", "line 1", "is a", "has a")]
        wanted += ["change a ;\n"]
        wanted += [f"if {address} change a ;\n" for address in ("last", "line 1", "is a", "has a", "not last")]
        self.assertEqual(all_of((["a"], ["a"])), (25, wanted))

    def test_all_examples_have_to_fit(self):
        one, other = (["a", "b"], ["a"]), (["b", "a"], ["a"])
        self.assertIn("if last delete ;\n", all_of(one)[1])
        self.assertEqual(all_of(one, other), (4, ["if is b delete ;\n", "if has b delete ;\n",
                                                  "if not is a delete ;\n", "if not has a delete ;\n"]))

    def test_the_order_of_the_family_and_not_the_fewest_bytes(self):
        # Later ones are shorter: swap c a, and if is b delete.
        self.assertEqual(all_of((["cbbbbb", "a"], ["abbbbb", "a"]))[1][0], "if line 1 change abbbbb ;\n")
        self.assertEqual(all_of((["b", "a"], ["a"]))[1][:2], ["if line 1 delete ;\n", "if is b delete ;\n"])

    def test_just_what_the_document_says(self):
        seen = {0: 0, 1: 0, 10: 0}
        for pairs in made_pairs(11, 200):
            fitting = oracle.all_fitting(pairs)
            self.assertEqual(all_of(*pairs), (len(fitting), fitting[:10]), pairs)
            seen[min(len(fitting), 1) if len(fitting) <= 10 else 10] += 1
        self.assertGreater(min(seen.values()), 20, seen)


class Nearest(unittest.TestCase):
    """The call nearest."""

    def test_numbers(self):
        told = [0, 19] + list(b"if line 2 delete ;\n")
        self.assertEqual(ask(example(["ab", "c", "ab"], ["ab", "ab"]), NEAREST)[1], told)

    def test_no_examples(self):
        self.assertEqual(ask(NEAREST), [[0, 9, 100, 101, 108, 101, 116, 101, 32, 59, 10]])

    def test_the_first_in_order_where_several_fit(self):
        self.assertEqual(nearest((["a"], ["b"])), (0, "change b ;\n"))
        self.assertEqual(nearest((["a", "a", "b", "b"], ["a", "b", "b"])), (0, "if line 1 delete ;\n"))
        # The script without commands is none of the family's commands.
        self.assertEqual(nearest((["a"], ["a"])), (0, "if not last delete ;\n"))
        self.assertEqual(nearest(([""], [""])), (0, "if not last delete ;\n"))

    def test_the_first_in_order_where_several_are_equally_near(self):
        self.assertEqual(nearest(([], ["c"])), (1, "delete ;\n"))
        self.assertEqual(nearest(([], ["c", "d"])), (2, "delete ;\n"))
        # change c is shorter, and as near.
        self.assertEqual(nearest((["a"], ["ca", "c"])), (1, "change ca ;\n"))
        # change x is as near, and if last change y too.
        self.assertEqual(nearest((["a", "b"], ["x", "y"])), (2, "delete ;\n"))

    def test_where_nothing_is_nearer_than_no_command(self):
        self.assertEqual(nearest((["a"], ["a"]), ([], ["c"])), (1, "if not last delete ;\n"))

    def test_the_sum_of_two(self):
        # delete is 1 from the one and 1 from the other.
        self.assertEqual(nearest((["ab"], ["a"]), (["b"], ["c"])), (2, "delete ;\n"))
        # if is a delete is 0 and 1; before aa is 2 and 0.
        self.assertEqual(nearest((["a"], []), (["b"], ["aa", "b"])), (1, "if is a delete ;\n"))
        self.assertEqual(nearest((["b"], ["b"]), (["b"], ["cc"])), (2, "delete ;\n"))

    def test_the_sum_of_three(self):
        self.assertEqual(nearest(([], []), (["b"], []), (["a"], ["a", "bc"])), (1, "if is b delete ;\n"))
        self.assertEqual(nearest(([], ["b"]), ([], ["c"]), (["a"], ["a"])), (2, "if not last delete ;\n"))
        self.assertEqual(nearest(([], ["c"]), ([], ["c", "c"]), ([], ["c"] * 6)), (9, "delete ;\n"))

    def test_the_sum_of_four(self):
        self.assertEqual(nearest(([], []), (["a"], ["a"]), ([], []), (["b"], ["bb", "cb"])), (1, "if is b change bb ;\n"))
        self.assertEqual(nearest(([], []), (["b"], ["a"]), (["ba"], ["b", "ba"]), ([], [])), (1, "if is b change a ;\n"))
        self.assertEqual(nearest(*[([], ["c"] * 6)] * 4), (24, "delete ;\n"))

    def test_together_and_not_each_alone(self):
        # Of the one alone change x, of the other alone change y.
        one, other = (["a", "a"], ["x", "x"]), (["b", "b"], ["y", "y"])
        self.assertEqual(nearest(one), (0, "change x ;\n"))
        self.assertEqual(nearest(other), (0, "change y ;\n"))
        self.assertEqual(nearest(one, other), (4, "delete ;\n"))

    def test_what_check_answers_of_it(self):
        for pairs in made_pairs(12, 120):
            far, script = nearest(*pairs)
            answer = ask_of(pairs, check(script))[0]
            self.assertEqual(answer[0], 1)
            self.assertEqual(sum(answer[2:]), far, pairs)

    def test_just_what_the_document_says(self):
        seen = set()
        for pairs in made_pairs(13, 150):
            self.assertEqual(nearest(*pairs), oracle.nearest(pairs), pairs)
            seen.add((len(pairs), nearest(*pairs)[0] > 0))
        rng = random.Random(14)
        for _ in range(80):
            pairs = [(made_text(rng, "ab", 3), made_text(rng, "abc", 3)) for _ in range(rng.randint(2, 4))]
            self.assertEqual(nearest(*pairs), oracle.nearest(pairs), pairs)
            seen.add((len(pairs), nearest(*pairs)[0] > 0))
        self.assertEqual(len(seen), 9)


class TooMuch(unittest.TestCase):
    """Runs that are too much: no command of the family comes to it, so here are others."""

    PAIRS = [(["a"], ["bb"]), (["a" * 16], []), (["c"], ["d", "e"]), (["b", "a" * 9], ["b"])]
    EXAMPLES = [Example(before, after) for before, after in PAIRS]

    def script(self, told):
        """A script that is read from a text."""
        return read_script(list(told.encode()))

    def test_1000_for_that_example(self):
        script = self.script("swap a bb ;")
        self.assertEqual([far_from(script, held) for held in self.EXAMPLES], [0, 1000, 3, 1000])
        for count, wanted in enumerate([0, 0, 1000, 1003, 2003]):
            self.assertEqual(far_from_all(script, self.EXAMPLES[:count]), wanted)

    def test_it_fits_no_example(self):
        script = self.script("swap a bb ;")
        self.assertTrue(fits_all(script, self.EXAMPLES[:1]))
        self.assertFalse(fits_all(script, self.EXAMPLES[:2]))
        self.assertFalse(fits_all(script, self.EXAMPLES[1:2]))

    def test_the_nearest_of_others(self):
        much, less = self.script("swap a bb ;"), self.script("if not has b delete ;")
        self.assertEqual(nearest_of([much, less], self.EXAMPLES[:1]), much)
        self.assertEqual(nearest_of([less, much], self.EXAMPLES[:1]), much)
        self.assertEqual(nearest_of([much, less], self.EXAMPLES[:2]), less)
        self.assertEqual(nearest_of([much, less], self.EXAMPLES[1:2]), less)
        # Both are too much: the first one counts.
        other = self.script("swap a ccc ;")
        self.assertEqual(nearest_of([other, much], self.EXAMPLES[1:2]), other)
        self.assertEqual(nearest_of([much, other], self.EXAMPLES[1:2]), much)

    def test_no_command_of_the_family_comes_to_it(self):
        full = (["a" * 16] * 6, ["bbbbbbbb"] * 6)
        for pairs in ([full], [full, (["b" * 16] * 6, ["aaaaaaaa"] * 6)]):
            for command in oracle.commands(pairs):
                for before, after in pairs:
                    self.assertLess(oracle.far_from(command, before, after), 1000)


if __name__ == "__main__":
    unittest.main()
