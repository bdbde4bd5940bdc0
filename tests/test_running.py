"""The call check: what comes of texts when scripts run over them."""

import random
import unittest

import oracle
import script_oracle
from asking import ask, check, checked, example
from linescriptsyard.parsing import read_script
from linescriptsyard.runs import result_of
from linescriptsyard.scripts import one_form
from making import made_script, made_text, written


class Running(unittest.TestCase):
    """What the tests of this file ask of a script."""

    def comes(self, script, before, after):
        """Look that a script makes just this text of that one."""
        self.assertEqual(checked(script, [(before, after)]), [1, 1, 0], (script, before))

    def too_much(self, script, before):
        """Look that what a script makes of a text is too much, whatever is meant."""
        for after in ([], [""], before):
            self.assertEqual(checked(script, [(before, after)]), [1, 0, 1000], (script, before))


class Addresses(Running):
    """Each address."""

    def test_all(self):
        self.comes("change x ;", ["a", "", "b"], ["x", "x", "x"])
        self.comes("if all change x ;", ["a", "", "b"], ["x", "x", "x"])

    def test_line(self):
        for number in range(1, 7):
            after = ["a"] * 6
            after[number - 1] = "x"
            self.comes(f"if line {number} change x ;", ["a"] * 6, after)
        for number in (3, 7, 10, 99):
            self.comes(f"if line {number} change x ;", ["a", "b"], ["a", "b"])

    def test_from_and_to(self):
        for low in range(1, 8):
            for high in range(low, 8):
                after = ["x" if low <= number <= high else "a" for number in range(1, 7)]
                self.comes(f"if from {low} to {high} change x ;", ["a"] * 6, after)
        self.comes("if from 2 to 99 change x ;", ["a"] * 4, ["a", "x", "x", "x"])

    def test_last(self):
        self.comes("if last change x ;", ["a", "b", "c"], ["a", "b", "x"])
        self.comes("if last change x ;", ["a"], ["x"])
        self.comes("if last change x ;", [], [])

    def test_has(self):
        self.comes("if has a change x ;", ["a", "bab", "b", "", "aa"], ["x", "x", "b", "", "x"])
        self.comes("if has ab change x ;", ["ab", "acb", "ba", "cabd", "aab", "a"], ["x", "acb", "ba", "x", "x", "a"])
        self.comes("if has abcdefgh change x ;", ["abcdefgh", "abcdefg", "xabcdefghx"], ["x", "abcdefg", "x"])

    def test_is(self):
        self.comes("if is a change x ;", ["a", "aa", "", "b", "ba"], ["x", "aa", "", "b", "ba"])
        self.comes("if is ab change x ;", ["ab", "a", "abc", "cab", "ba"], ["x", "a", "abc", "cab", "ba"])

    def test_not(self):
        self.comes("if not all change x ;", ["a", "b"], ["a", "b"])
        self.comes("if not line 2 change x ;", ["a", "b", "c"], ["x", "b", "x"])
        self.comes("if not from 2 to 3 change x ;", ["a", "b", "c", "d"], ["x", "b", "c", "x"])
        self.comes("if not last change x ;", ["a", "b", "c"], ["x", "x", "c"])
        self.comes("if not has a change x ;", ["ab", "b", ""], ["ab", "x", "x"])
        self.comes("if not is a change x ;", ["a", "ab", ""], ["a", "x", "x"])

    def test_several_nots(self):
        for nots in range(4):
            after = ["x", "b"] if nots % 2 == 0 else ["a", "x"]
            self.comes("if " + "not " * nots + "is a change x ;", ["a", "b"], after)

    def test_the_line_as_it_is_by_now(self):
        self.comes("change b ; if is b change c ; if is b change d ;", ["a"], ["c"])
        self.comes("swap a b ; if has a delete ; if has b after x ;", ["a"], ["b", "x"])
        self.comes("trade ; if is a delete ;", ["a", "b"], [""])

    def test_numbers_stay_though_lines_are_put_and_deleted(self):
        self.comes("if line 1 delete ; if line 2 change x ;", ["a", "b", "c"], ["x", "c"])
        self.comes("before n ; if line 2 change x ; if last after m ;", ["a", "b"], ["n", "a", "n", "x", "m"])
        self.comes("if last delete ; if last change x ;", ["a", "b"], ["a"])

    def test_lines_that_are_put_are_not_gone_over(self):
        self.comes("before a ; after a ; if is a change b ;", ["a"], ["a", "b", "a"])
        self.comes("if is a after a ;", ["a"], ["a", "a"])
        self.comes("if is b delete ; after b ;", ["a", "b", "a"], ["a", "b", "a", "b"])


class PutLines(Running):
    """before, after and bring."""

    def test_before(self):
        self.comes("before w ;", ["a", "b"], ["w", "a", "w", "b"])
        self.comes("before w ; before v ; before u ;", ["a"], ["w", "v", "u", "a"])

    def test_after(self):
        self.comes("after w ;", ["a", "b"], ["a", "w", "b", "w"])
        self.comes("after w ; after v ; after u ;", ["a"], ["a", "w", "v", "u"])

    def test_bring(self):
        self.comes("bring ;", ["a", "b"], ["a", "", "b", ""])
        self.comes("keep ; bring ;", ["a", "b"], ["a", "a", "b", "b"])

    def test_bring_puts_behind_what_is_put_behind_already(self):
        self.comes("keep ; after v ; bring ; after w ;", ["a"], ["a", "v", "a", "w"])
        self.comes("keep ; bring ; after v ; before w ;", ["a"], ["w", "a", "a", "v"])
        self.comes("before w ; after v ; bring ; before u ;", ["a"], ["w", "u", "a", "v", ""])

    def test_bring_puts_the_held_line_as_it_is_by_now(self):
        self.comes("keep ; bring ; change b ; keep ; bring ;", ["a"], ["b", "a", "b"])
        self.comes("bring ; keep ; bring ;", ["a"], ["a", "", "a"])
        self.comes("keep ; bring ; change b ; trade ;", ["a"], ["a", "a"])

    def test_what_is_put_comes_though_the_line_is_changed_or_deleted(self):
        self.comes("before w ; after v ; change x ;", ["a"], ["w", "x", "v"])
        self.comes("before w ; after v ; delete ;", ["a", "b"], ["w", "v", "w", "v"])


class Letters(Running):
    """change, swap and first."""

    def test_change(self):
        self.comes("change abcdefgh ;", ["a", "", "abcdefghijklmnop"], ["abcdefgh"] * 3)

    def test_swap_is_each_a(self):
        self.comes("swap a b ;", ["aca", "", "c", "aaa"], ["bcb", "", "c", "bbb"])
        self.comes("swap ab x ;", ["abab", "aab", "ba", "acb"], ["xx", "ax", "ba", "acb"])

    def test_swap_from_the_left_and_not_overlapping(self):
        self.comes("swap aa b ;", ["a", "aa", "aaa", "aaaa", "aaaaa"], ["a", "b", "ba", "bb", "bba"])
        self.comes("swap aba x ;", ["ababa", "abababa", "aababa"], ["xba", "xbx", "axba"])

    def test_swap_does_not_go_over_what_it_put(self):
        self.comes("swap a aa ;", ["aa", "ba"], ["aaaa", "baa"])
        self.comes("swap ab b ;", ["aab", "aaab"], ["ab", "aab"])
        self.comes("swap ab ba ;", ["aab", "abb"], ["aba", "bab"])

    def test_swap_none(self):
        self.comes("swap a none ;", ["aba", "a", "b", ""], ["b", "", "b", ""])
        self.comes("swap ab none ;", ["aabb", "abab"], ["ab", ""])

    def test_swap_for_itself(self):
        self.comes("swap a a ;", ["aba", "b"], ["aba", "b"])

    def test_first_is_the_first_a_alone(self):
        self.comes("first a b ;", ["aca", "ca", "c", ""], ["bca", "cb", "c", ""])
        self.comes("first aa b ;", ["aaaa", "aaa", "caaa", "a"], ["baa", "ba", "cba", "a"])
        self.comes("first ab ba ;", ["aab", "abab"], ["aba", "baab"])

    def test_first_none(self):
        self.comes("first a none ;", ["aba", "a", "b"], ["ba", "", "b"])
        self.comes("first a none ; first a none ;", ["aaa", "a"], ["a", ""])

    def test_first_twice(self):
        self.comes("first a b ; first a b ;", ["aaa"], ["bba"])
        self.comes("first a aa ; first a b ;", ["a"], ["ba"])


class HeldLine(Running):
    """keep, trade and bring, from one line to the next."""

    def test_at_first_without_letters(self):
        self.comes("trade ;", ["a"], [""])
        self.comes("bring ; delete ;", ["a"], [""])
        self.comes("if last trade ; if is a delete ;", ["a", "b"], [""])

    def test_keep(self):
        self.comes("if line 1 keep ; if line 3 bring ;", ["a", "b", "c"], ["a", "b", "c", "a"])
        self.comes("keep ; change x ; bring ;", ["a"], ["x", "a"])
        self.comes("bring ; keep ; delete ;", ["a", "b", "c"], ["", "a", "b"])

    def test_keep_leaves_the_line(self):
        self.comes("keep ;", ["a", "b"], ["a", "b"])

    def test_what_is_held_is_not_changed_with_the_line(self):
        self.comes("keep ; swap a b ; bring ;", ["aa"], ["bb", "aa"])
        self.comes("keep ; change b ; trade ; bring ;", ["a"], ["a", "b"])

    def test_trade(self):
        self.comes("trade ;", ["a", "b", "c"], ["", "a", "b"])
        self.comes("trade ; if last bring ;", ["a", "b", "c"], ["", "a", "b", "c"])
        self.comes("trade ; trade ;", ["a", "b"], ["a", "b"])
        self.comes("if line 1 keep ; if line 3 trade ;", ["a", "b", "c"], ["a", "b", "a"])

    def test_held_over_a_deleted_line_and_a_stop(self):
        self.comes("if line 1 keep ; if line 1 delete ; if line 2 bring ;", ["a", "b"], ["b", "a"])
        self.comes("trade ; if line 1 delete ;", ["a", "b"], ["a"])
        self.comes("keep ; if line 1 stop ; delete ;", ["a", "b"], ["a"])
        self.comes("if line 2 bring ; stop ; keep ;", ["a", "b"], ["a", "b", ""])
        self.comes("if line 2 bring ; delete ; keep ;", ["a", "b"], [""])

    def test_each_run_begins_without_letters_held(self):
        pairs = [(["a", "b"], ["a", "", "b"])] * 4
        self.assertEqual(checked("if line 1 bring ; if last keep ;", pairs), [1, 4, 0, 0, 0, 0])
        told = ask(example(["a"], [""]), check("keep ;"), check("trade ;"), check("trade ;"))
        self.assertEqual(told[1:], [[1, 0, 2], [1, 1, 0], [1, 1, 0]])


class SkipAndStop(Running):
    """skip, stop, and delete."""

    def test_skip(self):
        self.comes("skip 1 ; change x ;", ["a"], ["a"])
        self.comes("skip 1 ; change x ; after y ;", ["a"], ["a", "y"])
        self.comes("skip 2 ; change x ; before z ; after y ;", ["a"], ["a", "y"])

    def test_each_count(self):
        for count in range(1, 10):
            script = f"skip {count} ;" + "swap a aa ;" * 10
            self.comes(script.replace("swap a aa", "first a ba"), ["a"], ["b" * (10 - count) + "a"])

    def test_skip_that_is_not_done(self):
        self.comes("if is b skip 1 ; change x ;", ["a", "b"], ["x", "b"])
        self.comes("if last skip 1 ; delete ;", ["a", "b", "c"], ["c"])

    def test_a_command_that_is_not_done_counts(self):
        self.comes("skip 1 ; if is b delete ; change x ;", ["a"], ["x"])
        self.comes("skip 2 ; if not all keep ; if all keep ; bring ;", ["a"], ["a", ""])

    def test_a_skip_that_is_left_out_leaves_nothing_out(self):
        self.comes("skip 1 ; skip 5 ; change x ;", ["a"], ["x"])
        self.comes("skip 2 ; skip 5 ; stop ; change x ;", ["a"], ["x"])

    def test_what_is_left_out_whatever_it_is(self):
        for deed in ("delete", "stop", "before w", "after w", "change w", "swap a w", "first a w", "keep", "bring",
                     "trade", "skip 1"):
            self.comes(f"skip 1 ; {deed} ; bring ;", ["a", "b"], ["a", "", "b", ""])

    def test_skip_beyond_the_end(self):
        self.comes("skip 9 ;", ["a", "b"], ["a", "b"])
        self.comes("skip 9 ; delete ;", ["a", "b"], ["a", "b"])

    def test_skip_is_for_this_line(self):
        self.comes("if line 1 skip 9 ; change x ;", ["a", "b"], ["a", "x"])
        self.comes("swap a b ; if line 1 skip 9 ;", ["a", "a"], ["b", "b"])

    def test_stop(self):
        self.comes("stop ; delete ;", ["a", "b"], ["a", "b"])
        self.comes("if is a stop ; change x ;", ["a", "b"], ["a", "x"])
        self.comes("if line 1 change x ; if line 1 stop ; change y ;", ["a", "b"], ["x", "y"])
        self.comes("before w ; after v ; stop ; before u ;", ["a"], ["w", "a", "v"])

    def test_delete(self):
        self.comes("delete ;", ["a", "", "b"], [])
        self.comes("if is a delete ; change x ;", ["a", "b"], ["x"])

    def test_delete_ends_what_is_done_on_the_line(self):
        self.comes("delete ; before w ; after v ; bring ;", ["a"], [])
        self.comes("before w ; after v ; delete ; before u ; after t ;", ["a"], ["w", "v"])
        self.comes("keep ; bring ; delete ; change x ; keep ;", ["a"], ["a"])


class TooMuch(Running):
    """More than 16 letters, more than 60 lines."""

    def test_16_and_17_letters_by_swap(self):
        self.comes("swap a bbbb ;", ["aaaa"], ["b" * 16])
        self.comes("swap a bb ;", ["c" * 14 + "a"], ["c" * 14 + "bb"])
        self.too_much("swap a bb ;", ["c" * 15 + "a"])
        self.too_much("swap a bbbb ;", ["aaaac"])
        self.too_much("swap a bbbbbbbb ;", ["a" * 16])

    def test_16_and_17_letters_by_first(self):
        self.comes("first a bbbbbbbb ;", ["a" + "c" * 8], ["b" * 8 + "c" * 8])
        self.too_much("first a bbbbbbbb ;", ["a" + "c" * 9])
        self.comes("first a bb ;", ["a" * 15], ["bb" + "a" * 14])
        self.too_much("first a bb ;", ["a" * 16])

    def test_16_letters_that_stay(self):
        self.comes("swap a b ;", ["a" * 16], ["b" * 16])
        self.comes("swap c bb ; first c bb ;", ["a" * 16], ["a" * 16])
        self.comes("keep ; trade ; bring ;", ["a" * 16], ["a" * 16, "a" * 16])
        self.comes("after abcdefgh ; before abcdefgh ;", ["a" * 16], ["abcdefgh", "a" * 16, "abcdefgh"])

    def test_whatever_becomes_of_the_line(self):
        for more in ("delete ;", "stop ;", "change a ;", "swap b none ;", "trade ;", "first b none ;"):
            self.too_much("swap a bb ;" + more, ["a" * 16])
            self.too_much("first a bb ;" + more, ["a" * 16])
            self.too_much("if line 2 swap a bb ;" + more, ["a", "a" * 16, "a"])

    def test_not_where_the_command_is_not_done(self):
        for script in ("if line 2 swap a bb ;", "skip 1 ; swap a bb ;", "stop ; swap a bb ;", "if has b swap a bb ;"):
            self.comes(script, ["a" * 16], ["a" * 16])
        self.comes("delete ; swap a bb ;", ["a" * 16], [])

    def test_grown_little_by_little(self):
        self.comes("swap a aa ;" * 4, ["a"], ["a" * 16])
        self.too_much("swap a aa ;" * 5, ["a"])
        self.comes("trade ; swap a aa ;", ["a" * 8, "", ""], ["", "a" * 16, ""])
        self.too_much("trade ; swap a aa ;", ["a" * 9, ""])

    def test_60_and_61_lines(self):
        six = ["a"] * 6
        ten = "before x ;" * 9
        self.assertEqual(checked(ten, [(six, [])]), [1, 0, 60])
        self.assertEqual(checked(ten, [(six, six)]), [1, 0, 54])
        self.too_much(ten + "if last before x ;", six)
        self.too_much(ten + "if line 1 after x ;", six)
        self.too_much(ten + "if line 3 bring ;", six)
        self.too_much("after x ;" * 10, six)
        self.assertEqual(checked("bring ;" * 9, [(six, six)]), [1, 0, 54])

    def test_deleted_lines_do_not_come(self):
        six = ["a"] * 6
        self.assertEqual(checked("before x ;" * 10 + "delete ;", [(six, [])]), [1, 0, 60])
        self.too_much("before x ;" * 10 + "if not last delete ;", six)
        self.assertEqual(checked("after x ;" * 15 + "delete ;", [(six[:4], ["x"])]), [1, 0, 59])
        self.too_much("after x ;" * 15 + "if not line 2 delete ;", six[:4])
        self.too_much("after x ;" * 15 + "delete ;", six)

    def test_of_one_example_alone(self):
        pairs = [(["a"], ["bb"]), (["a" * 16], ["a" * 16]), (["c"], ["d"]), (["a" * 9], [])]
        self.assertEqual(checked("swap a bb ;", pairs), [1, 1, 0, 1000, 2, 1000])


class Texts(Running):
    """Texts and scripts without anything, and none to four examples."""

    def test_a_script_without_commands(self):
        for lines in ([], [""], ["a", "", "b"], ["abcdefghijklmnop"] * 6):
            self.comes("", lines, lines)
        self.assertEqual(checked("", [(["a", "b", "c"], ["b", "d"])]), [1, 0, 3])

    def test_texts_without_lines(self):
        for script in ("", "delete ;", "before x ;", "bring ;", "if last after x ;", "if not all keep ;"):
            self.comes(script, [], [])
            self.assertEqual(checked(script, [([], ["a", "b"])]), [1, 0, 2])

    def test_lines_without_letters(self):
        self.comes("if last change x ;", ["", ""], ["", "x"])
        self.comes("swap a b ; first a b ;", [""], [""])
        self.comes("if not has a delete ;", ["", "a", ""], ["a"])

    def test_none_to_four_examples(self):
        pairs = [(["a", "c"], ["a"]), (["c"], ["c"]), (["b"], ["b"]), (["c", "c", "a"], ["b", "a", "b"])]
        script = "if has c delete ;"
        told = [0, 1, 0, 2]
        for count in range(5):
            wanted = [1, told[:count].count(0), *told[:count]]
            self.assertEqual(checked(script, pairs[:count]), wanted)

    def test_how_far(self):
        self.assertEqual(checked("", [(["a", "b", "c", "d"], ["d", "a", "b"])]), [1, 0, 3])
        self.assertEqual(checked("swap a b ;", [(["a", "c", "a"], ["c", "b", "b"])]), [1, 0, 2])
        self.assertEqual(checked("delete ;", [(["a"], ["a"] * 6)]), [1, 0, 6])

    def test_two_times_as_far_is_no_fit(self):
        self.assertEqual(checked("", [(["a", "b"], ["b", "a"])]), [1, 0, 2])


class ManyScripts(unittest.TestCase):
    """Many scripts and examples that are made here."""

    def test_just_what_the_document_says(self):
        rng = random.Random(8)
        seen = [0, 0, 0]
        for _ in range(8000):
            told = written(rng, made_script(rng, rng.choice([1, 3, 6, 16])))
            signs = rng.choice(["a", "ab", "abc"])
            pairs = []
            for _ in range(rng.randint(0, 4)):
                before = made_text(rng, signs, 6)
                result = oracle.run(script_oracle.read(told), before)
                good = result is not None and len(result) <= 6 and rng.random() < 0.7
                pairs.append((before, result if good else made_text(rng, signs, 6)))
            wanted = script_oracle.check(told, pairs)
            self.assertEqual(checked(told, pairs), wanted, (told, pairs))
            for distance in wanted[2:]:
                seen[0 if distance == 0 else 2 if distance == 1000 else 1] += 1
        self.assertGreater(min(seen), 50, seen)

    def test_just_these_lines_come(self):
        rng = random.Random(9)
        for _ in range(3000):
            told = written(rng, made_script(rng, rng.choice([1, 3, 6, 16])))
            before = made_text(rng, "ab", 6)
            wanted = oracle.run(script_oracle.read(told), before)
            if wanted is not None:
                self.assertEqual(result_of(read_script(list(told)), before), wanted, (told, before))

    def test_the_one_form(self):
        rng = random.Random(10)
        for _ in range(2000):
            told = written(rng, made_script(rng, rng.choice([1, 3, 6, 16])))
            form = one_form(read_script(list(told)))
            self.assertEqual(form, script_oracle.read(told), told)
            self.assertEqual(one_form(read_script(list(form.encode()))), form)


if __name__ == "__main__":
    unittest.main()
