"""The call find: which script is found, told in its one form."""

import unittest

import oracle
from asking import FIND, ask, ask_of, example, found
from making import made_pairs


class NoCommand(unittest.TestCase):
    """The script without commands fits."""

    def test_no_examples(self):
        self.assertEqual(ask(FIND), [[0, 0]])

    def test_texts_that_stay(self):
        for lines in ([], [""], ["a"], ["a", "b", "a"], ["abcdefghijklmnop"] * 6):
            self.assertEqual(ask(example(lines, lines), FIND), [[1], [0, 0]])
        self.assertEqual(ask_of([(["a"], ["a"]), (["b"], ["b"])], FIND), [[0, 0]])

    def test_all_have_to_stay(self):
        self.assertEqual(found([(["a"], ["a"]), (["b"], [])]), "if is b delete ;\n")


class OneCommand(unittest.TestCase):
    """One command is enough."""

    def test_worked_example(self):
        told = ask(example(["ab", "c", "ab"], ["ab", "ab"]), FIND)[1]
        self.assertEqual(told, [1, 17] + list(b"if is c delete ;\n"))

    def test_all_is_left_out(self):
        self.assertEqual(ask(example(["a"], []), FIND)[1], [1, 9] + list(b"delete ;\n"))

    def test_each_deed(self):
        self.assertEqual(found([(["a", "b"], [])]), "delete ;\n")
        self.assertEqual(found([(["a", "b"], ["c", "c"])]), "change c ;\n")
        self.assertEqual(found([(["a", "b"], ["c", "a", "c", "b"])]), "before c ;\n")
        self.assertEqual(found([(["a", "b"], ["a", "c", "b", "c"])]), "after c ;\n")
        self.assertEqual(found([(["aab", "b"], ["ccb", "b"])]), "swap a c ;\n")
        self.assertEqual(found([(["aab", "ac"], ["b", "c"])]), "swap a none ;\n")

    def test_each_address(self):
        self.assertEqual(found([(["a", "a"], ["a", "b"])]), "if last change b ;\n")
        self.assertEqual(found([(["a", "a", "a"], ["a", "b", "a"])]), "if line 2 change b ;\n")
        self.assertEqual(found([(["a", "b", "ab"], ["c", "b", "ab"])]), "if is a change c ;\n")
        self.assertEqual(found([(["ca", "a", "cb"], ["x", "a", "x"])]), "if has c change x ;\n")
        self.assertEqual(found([(["a", "a", "a"], ["b", "b", "a"])]), "if not last change b ;\n")
        self.assertEqual(found([(["a", "a", "a"], ["b", "a", "b"])]), "if not line 2 change b ;\n")
        self.assertEqual(found([(["ax", "ayy", "az"], ["b", "ayy", "b"])]), "if not has y change b ;\n")
        self.assertEqual(found([(["x", "y", "z"], ["b", "y", "b"])]), "if not is y change b ;\n")

    def test_last_is_the_last_line_of_each_text(self):
        pairs = [(["a", "a", "a"], ["a", "a", "b"]), (["a"], ["b"]), (["a", "a"], ["a", "b"])]
        self.assertEqual(found(pairs), "if last change b ;\n")

    def test_line_numbers_begin_with_one(self):
        pairs = [(["a", "a", "a"], ["b", "a", "a"]), (["a"], ["b"])]
        self.assertEqual(found(pairs), "if line 1 change b ;\n")

    def test_letters_that_are_gone(self):
        self.assertEqual(found([(["a"], [""])]), "swap a none ;\n")
        self.assertEqual(found([(["aba", "", "a"], ["b", "", ""])]), "swap a none ;\n")

    def test_fewest_bytes_ahead_of_order(self):
        # change abbbbb comes first in order, but is longer.
        self.assertEqual(found([(["cbbbbb"], ["abbbbb"])]), "swap c a ;\n")
        # if line 1 comes first in order, but is longer; if not last comes behind.
        self.assertEqual(found([(["a", "b"], ["b"])]), "if is a delete ;\n")

    def test_order_where_the_bytes_are_as_many(self):
        # if last and if is b.
        self.assertEqual(found([(["a", "b"], ["a"])]), "if last delete ;\n")
        # if line 1 and if line 2.
        self.assertEqual(found([(["a", "a", "b", "b"], ["a", "b", "b"])]), "if line 1 delete ;\n")
        # change c and swap a c.
        self.assertEqual(found([(["a"], ["c"])]), "change c ;\n")
        # if last before c, if is aa after c and if has a after c.
        self.assertEqual(found([(["aa", "bb"], ["aa", "c", "bb"])]), "if last before c ;\n")
        # if is ac, if has a and if has c.
        self.assertEqual(found([(["ac", "b", "b", "ac"], ["b", "b"])]), "if is ac delete ;\n")
        # if has a and if has c.
        self.assertEqual(found([(["ac", "b", "b", "cca"], ["b", "b"])]), "if has a delete ;\n")

    def test_all_examples_have_to_fit(self):
        one = (["a", "b"], ["a"])
        self.assertEqual(found([one]), "if last delete ;\n")
        self.assertEqual(found([one, (["b", "a"], ["a"])]), "if is b delete ;\n")
        self.assertEqual(found([one, (["bc", "a"], ["a"])]), "if has b delete ;\n")
        self.assertEqual(found([one, (["c", "d"], ["c"]), (["b", "b"], ["b"])]), "if last delete ;\n")

    def test_after_a_drop(self):
        calls = [example(["a", "b"], ["a"]), example(["b", "a"], ["a"]), [1, 1], FIND]
        self.assertEqual(ask(*calls)[3], [1, 17] + list(b"if last delete ;\n"))


class TwoCommands(unittest.TestCase):
    """Two useful commands are needed."""

    def test_one_behind_the_other(self):
        pairs = [(["b"], ["", "a"])]
        script = "after a ;\nswap b none ;\n"
        self.assertEqual(ask_of(pairs, FIND), [[2, len(script)] + list(script.encode())])

    def test_the_same_one_twice(self):
        self.assertEqual(found([(["a"], ["b", "b", "a"])]), "before b ;\nbefore b ;\n")
        self.assertEqual(found([(["a"], ["a", "b", "b"])]), "after b ;\nafter b ;\n")

    def test_lines_put_stay_in_the_order_in_which_they_are_put(self):
        self.assertEqual(found([(["a"], ["bb", "c", "a"])]), "before bb ;\nbefore c ;\n")
        self.assertEqual(found([(["a"], ["c", "bb", "a"])]), "before c ;\nbefore bb ;\n")
        self.assertEqual(found([(["a"], ["a", "bb", "c"])]), "after bb ;\nafter c ;\n")

    def test_a_line_put_comes_though_its_line_is_deleted(self):
        self.assertEqual(oracle.run("before c ;\ndelete ;\n", ["a"]), ["c"])
        pairs = [(["aa", "b"], ["ccc", "ddd", "b"])]
        self.assertEqual(found(pairs), oracle.found(pairs))
        self.assertEqual(found(pairs).count("\n"), 2)

    def test_no_more_is_done_on_a_deleted_line(self):
        self.assertEqual(found([(["a", ""], ["", "b"])]), "if is a delete ;\nif last after b ;\n")

    def test_not_useful_commands_do_not_count(self):
        # after b alone is as far as no command, so the shorter
        # if is a delete ; after b ; is none of two useful ones.
        pairs = [(["a", ""], ["", "b"])]
        self.assertTrue(oracle.fits("if is a delete ;\nafter b ;\n", pairs))
        self.assertEqual(found(pairs), "if is a delete ;\nif last after b ;\n")
        self.assertTrue(oracle.fits("swap a none ;\nswap b none ;\n", [(["ba"], [""])]))
        self.assertEqual(found([(["ba"], [""])]), -8)

    def test_the_first_forty_useful_ones_count(self):
        pairs = [(["b", "bb"], ["a", ""])]
        later = "if is b change a ;\nswap b none ;\n"
        useful = oracle.all_useful(pairs)
        self.assertTrue(oracle.fits(later, pairs))
        self.assertIn("swap b none ;\n", useful[40:])
        self.assertEqual(found(pairs), -8)

    def test_order_of_the_first_then_of_the_second(self):
        # The other way round they fit as well and have as many bytes.
        for pairs in ([(["a", ""], ["", "b"])], [(["b"], ["", "a"])]):
            script = found(pairs)
            one, other = script.splitlines(keepends=True)
            self.assertTrue(oracle.fits(other + one, pairs))
            commands = oracle.commands(pairs)
            self.assertLess(commands.index(one), commands.index(other))

    def test_order_of_addresses(self):
        # The other way round they fit as well, with as many bytes.
        self.assertEqual(found([(["a"] * 4, ["a"] * 2)]), "if last delete ;\nif line 1 delete ;\n")
        self.assertEqual(found([(["a"] * 5, ["a", "b", "b", "a", "a"])]), "if line 2 change b ;\nif line 3 change b ;\n")
        self.assertEqual(found([(["a", "b", "c", "d"], ["c", "d"])]), "if is a delete ;\nif is b delete ;\n")

    def test_order_of_swaps(self):
        # Too long for change; the other way round they fit as well.
        long = "a" * 10
        pairs = [([long] * 3, ["b" * 10, long, ""])]
        self.assertEqual(found(pairs), "if line 1 swap a b ;\nif last swap a none ;\n")
        pairs = [([long] * 3, ["c" * 10, "b" * 10, long])]
        self.assertEqual(found(pairs), "if line 2 swap a b ;\nif line 1 swap a c ;\n")
        self.assertEqual(found([(["b" * 10, long], ["", ""])]), "swap a none ;\nswap b none ;\n")

    def test_one_command_goes_ahead_of_two_with_fewer_bytes(self):
        pairs = [(["cbbbbbbb", "dbbbbbbb", "a"], ["bbbbbbbb", "bbbbbbbb", "a"])]
        self.assertTrue(oracle.fits("swap c b ;\nswap d b ;\n", pairs))
        self.assertEqual(found(pairs), "if has b change bbbbbbbb ;\n")


class Nothing(unittest.TestCase):
    """Nothing is found."""

    def test_refused(self):
        self.assertEqual(ask(example([], ["a"]), FIND), [[1], [-8]])
        self.assertEqual(ask(example(["a"], ["bcdefghij"]), FIND), [[1], [-8]])
        self.assertEqual(ask(example(["a"], ["if"]), FIND), [[1], [-8]])

    def test_examples_that_speak_against_each_other(self):
        self.assertEqual(found([(["a"], ["b"]), (["a"], ["c"])]), -8)
        self.assertEqual(found([(["a"], ["a"]), (["a"], [])]), -8)

    def test_three_commands_would_be_needed(self):
        self.assertEqual(found([(["a", "b", "c"], ["x", "y", "z"])]), -8)

    def test_it_may_be_asked_again(self):
        told = ask(example(["a"], ["b"]), example([], ["a"]), FIND, [1, 1], FIND)
        self.assertEqual(told[2:], [[-8], [1], [1, 11] + list(b"change b ;\n")])


class ManyExamples(unittest.TestCase):
    """What's found of many examples that are made here."""

    def test_just_what_the_document_says(self):
        kinds = set()
        for pairs in made_pairs(2, 250):
            script = oracle.found(pairs)
            self.assertEqual(found(pairs), -8 if script is None else script, pairs)
            kinds.add(-8 if script is None else script.count("\n"))
        self.assertEqual(kinds, {-8, 0, 1, 2})


if __name__ == "__main__":
    unittest.main()
