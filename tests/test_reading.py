"""The call check: how scripts are read, and which fault counts."""

import random
import unittest

import oracle
import script_oracle
from asking import ask, check, checked, example
from making import made_script, spoiled, written

# Scripts that take every way that there is, as their tokens.
WAYS = [
    "if all delete ;",
    "if line 99 before w ;",
    "if from 1 to 9 after abcdefgh ;",
    "if last change w ;",
    "if has w swap a b ;",
    "if is w swap a none ;",
    "if not all first a b ;",
    "if not not last first a none ;",
    "if not not not line 1 keep ;",
    "bring ; trade ;",
    "skip 9 ; stop ;",
    "if not from 2 to 2 skip 1 ;",
]
BLANKS = " \t\n"


class Reading(unittest.TestCase):
    """What the tests of this file ask of a script."""

    def right(self, *scripts):
        """Look that scripts are right."""
        for script in scripts:
            self.assertEqual(checked(script), [1, 0], script)

    def fault(self, script, code, place):
        """Look at a script's fault, where no example and where one is held."""
        self.assertEqual(checked(script), [0, code, place], script)
        self.assertEqual(checked(script, [(["a"], ["b"])]), [0, code, place], script)


class BlanksAndRemarks(Reading):
    """Blanks and remarks part tokens and mean nothing."""

    def test_between_any_two_tokens_and_at_both_ends(self):
        words = "if not from 1 to 2 swap ab none ; if is b first b c ; keep ;".split()
        pairs = [(["ab", "ab", "cab", "b", "b"], ["ab", "ab", "c", "c", "c"])]
        for gap in [" ", "\t", "\n", "\n\n \t ", "#\n", "# if ; all !\n", " #a\n#b\n", "##\n", "#\t\n\t"]:
            for place in range(len(words) + 1):
                script = " ".join(words[:place]) + gap + " ".join(words[place:])
                self.assertEqual(checked(script, pairs), [1, 1, 0], script)

    def test_none_has_to_stand_where_tokens_are_parted_already(self):
        self.right("if line2delete;keep;", "if from1to2swap a b;", "delete;delete;", "skip3;stop;", "if line 1stop;")

    def test_a_remark_ahead_of_each_byte_10_alone(self):
        self.right("#\rdelete", "# a\x0b!\x0c;", "#delete ;\ndelete ;", "delete # ;\n;")
        self.fault("#\n!", 2, 2)
        self.fault("# \n ;", 3, 4)

    def test_a_remark_ends_a_token(self):
        self.right("delete#;\n;", "skip 1#0\n;", "change ab#cd\n;", "keep;#")
        self.fault("dele#\nte ;", 3, 0)
        self.fault("skip 1#\n0 ;", 3, 8)
        self.fault("change ab#\ncd ;", 3, 11)

    def test_a_remark_that_the_end_ends(self):
        self.right("#", "# keep", "keep ; #", "keep ;#if not !", "\n#\n#")
        self.fault("keep # ;", 3, 8)
        self.fault("# a\nkeep #\xff".encode("latin-1"), 3, 11)

    def test_any_byte_may_stand_in_a_remark(self):
        others = bytes(byte for byte in range(256) if byte != 10)
        self.right(b"#" + others, b"keep #" + others + b"\n;", b"#" + others + b"\n" + b"keep ;")

    def test_other_bytes_are_no_blanks(self):
        for byte in (0, 7, 8, 11, 12, 13, 14, 31, 33, 127, 133, 160):
            self.fault(b"keep" + bytes([byte]) + b";", 2, 4)
            self.fault(bytes([byte]) + b"keep ;", 2, 0)
            self.fault(b"keep ; " + bytes([byte]), 2, 7)

    def test_nothing_but_blanks_and_remarks(self):
        self.right("", " ", "\t", "\n", " \t\n", "#", "#\n", " # keep\n\t")


class Tokens(Reading):
    """Words, numbers, and bytes with which no token begins."""

    def test_words_of_eight_and_nine_letters(self):
        self.right("change abcdefgh ;", "change stuvwxyz ;", "change abcdefgh;")
        self.fault("change abcdefghi ;", 2, 7)
        self.fault("change abcdefghijklmnopqrstuvwxyz ;", 2, 7)
        self.fault("abcdefgh", 3, 0)
        self.fault("abcdefghi", 2, 0)
        self.fault("keep ; deleteall", 2, 7)
        self.fault("swap a abcdefghi", 2, 7)

    def test_words_go_on_as_far_as_letters_go(self):
        self.fault("keepkeep ;", 3, 0)
        self.fault("ifall keep ;", 3, 0)
        self.fault("if allkeep ;", 3, 3)
        self.right("change keepkeep ;", "change iff ;", "swap no ne ;")

    def test_numbers(self):
        for told in ("0", "10", "99", "1000", "999999999", "1000000000"):
            self.fault(f"skip {told} ;", 7, 5)
            self.fault(f"keep {told} ;", 3, 5)
        for told in ("1000000001", "2000000000", "9999999999", "10000000000", "1" * 100):
            self.fault(f"skip {told} ;", 2, 5)
            self.fault(f"keep {told} ;", 2, 5)

    def test_needless_zeros(self):
        for told in ("00", "01", "001", "09", "000", "0000000001", "01000000000"):
            self.fault(f"skip {told} ;", 2, 5)
            self.fault(f"keep {told} ;", 2, 5)
        self.right("if line 10 keep ;", "if line 90 keep ;")

    def test_numbers_go_on_as_far_as_digits_go(self):
        self.fault("if line 1 2 keep ;", 3, 10)
        self.fault("if line 100 keep ;", 7, 8)
        self.fault("skip 0a ;", 7, 5)
        self.fault("skip 1a ;", 3, 6)
        self.fault("1skip ;", 3, 0)

    def test_bytes_with_which_no_token_begins(self):
        for byte in range(256):
            if byte in b" \t\n#;" or 97 <= byte <= 122 or 48 <= byte <= 57:
                continue
            sign = bytes([byte])
            self.fault(sign, 2, 0)
            self.fault(b"keep ;" + sign, 2, 6)
            self.fault(b"change ab" + sign + b" ;", 2, 9)
            self.fault(b"skip " + sign + b"1 ;", 2, 5)
            self.fault(b"# \nskip 1" + sign, 2, 9)

    def test_great_letters(self):
        self.fault("Keep ;", 2, 0)
        self.fault("keeP ;", 2, 3)

    def test_each_byte_at_a_script_s_end(self):
        for byte in range(256):
            told = b"keep ;" + bytes([byte])
            self.assertEqual(checked(told), script_oracle.check(told, []), byte)


class HowLong(Reading):
    """At most 4096 bytes."""

    def test_4096_and_4097_bytes(self):
        for fill in (b" ", b"\n", b"#"):
            self.right(b"keep ;" + fill * 4090, fill * 4096)
            self.fault(b"keep ;" + fill * 4091, 1, 4096)
            self.fault(fill * 4097, 1, 4096)
        self.right(b" " * 4090 + b"keep ;", b"#" * 4089 + b"\nkeep ;")
        self.fault(b" " * 4091 + b"keep ;", 1, 4096)

    def test_up_to_8192_bytes(self):
        for count in (4098, 5000, 8191, 8192):
            for fill in (b" ", b"#", b"a", b"0", b";", b"!", b"\xff"):
                self.fault(fill * count, 1, 4096)

    def test_it_counts_ahead_of_the_other_faults(self):
        for start in (b"!", b"01", b";", b"keep ; " * 17, b"if not not not not", b"skip 0 ;"):
            self.assertNotEqual(checked(start), [1, 0])
            self.fault(start + b" " * (4097 - len(start)), 1, 4096)

    def test_long_tokens(self):
        self.fault(b"a" * 4096, 2, 0)
        self.fault(b"1" * 4096, 2, 0)
        self.fault(b"0" * 4096, 2, 0)
        self.fault(b";" * 4096, 3, 0)
        self.fault(b"keep ;" + b" " * 4089 + b"!", 2, 4095)
        self.fault(b"keep " + b" " * 4091, 3, 4096)


class WhichFault(Reading):
    """1 first, then 2, then 3, 4 and 7 from left to right."""

    def test_2_wherever_it_stands(self):
        self.fault("; !", 2, 2)
        self.fault("if delete ; A", 2, 12)
        self.fault("skip 0 ; 01", 2, 9)
        self.fault("keep abcdefghi", 2, 5)
        self.fault("keep ;" * 17 + "!", 2, 102)
        self.fault("if not not not not all keep ; 1000000001", 2, 30)
        self.fault("if from 2 to 1 keep ; # !\n !", 2, 27)

    def test_the_first_2(self):
        self.fault("! 01", 2, 0)
        self.fault("abcdefghi !", 2, 0)
        self.fault("keep ; 01 !", 2, 7)

    def test_3_ahead_of_7_and_of_4(self):
        self.fault("; skip 0 ;", 3, 0)
        self.fault("if none line 0 keep ;", 3, 3)
        self.fault("keep if not not not not all", 3, 5)
        self.fault("keep ;" * 15 + "keep keep ;keep ;", 3, 95)

    def test_7_ahead_of_3_and_of_4(self):
        self.fault("skip 0 ; ;", 7, 5)
        self.fault("skip 0", 7, 5)
        self.fault("if line 0 none", 7, 8)
        self.fault("if from 0 from", 7, 8)
        self.fault("skip 10 ; if not not not not all keep ;", 7, 5)
        self.fault("skip 0 ;" + "keep ;" * 17, 7, 5)

    def test_4_ahead_of_3_and_of_7(self):
        self.fault("if not not not not ;", 4, 15)
        self.fault("if not not not not line 0 keep ;", 4, 15)
        self.fault("keep ;" * 16 + "skip 0 ;", 4, 96)
        self.fault("keep ;" * 16 + "if not not not not", 4, 96)
        self.fault("if not not not not all keep ; skip 0 ;", 4, 15)

    def test_7_ahead_of_another_7(self):
        self.fault("if line 0 skip 0 ;", 7, 8)
        self.fault("if from 100 to 0 keep ;", 7, 8)
        self.fault("if from 5 to 4 skip 0 ;", 7, 13)


class TooMany(Reading):
    """16 commands, three nots."""

    def test_16_and_17_commands(self):
        for count in (0, 1, 2, 15, 16):
            self.right("keep ;" * count, "if not all keep ;\n" * count)
        self.fault("keep ;" * 17, 4, 96)
        self.fault("keep ;" * 18, 4, 96)
        self.fault("if last keep ;" * 17, 4, 224)

    def test_whatever_stands_behind_the_16th(self):
        for word in oracle.OWN + [";", "a", "abcdefgh", "0", "1", "1000000000"]:
            self.fault("keep ;" * 16 + word, 4, 96)
            self.fault("keep ;" * 16 + " # keep ;\n\t" + word + " ;", 4, 107)
        self.fault("keep ;" * 16 + "\n;", 4, 97)

    def test_blanks_and_remarks_behind_the_16th(self):
        self.right("keep ;" * 16 + " ", "keep ;" * 16 + "\n# keep ;", "keep ;" * 16 + "#\n \t")

    def test_three_and_four_nots(self):
        for address in ("all", "line 1", "from 1 to 2", "last", "has a", "is a"):
            for count in range(4):
                self.right("if " + "not " * count + address + " keep ;")
            for count in range(4, 9):
                self.fault("if " + "not " * count + address + " keep ;", 4, 15)
        self.fault("keep ; if not#\n not\tnot\nnot", 4, 24)

    def test_nots_of_each_command(self):
        self.right("if not not not all keep ; if not not not last keep ; if not all stop ;")
        self.fault("if not not not all keep ; if not not not not", 4, 41)

    def test_nots_elsewhere(self):
        self.fault("not all keep ;", 3, 0)
        self.fault("not not not not all keep ;", 3, 0)
        self.fault("if all not keep ;", 3, 7)
        self.fault("if line not not not not", 3, 8)
        self.fault("if has not keep ;", 3, 7)
        self.fault("if not ;", 3, 7)


class Bounds(Reading):
    """Numbers within their bounds."""

    def test_lines(self):
        for number in (1, 2, 9, 10, 98, 99):
            self.right(f"if line {number} keep ;", f"if not line {number} keep ;")
        for number in (0, 100, 101, 999, 1000000000):
            self.fault(f"if line {number} keep ;", 7, 8)

    def test_from_and_to(self):
        for low, high in [(1, 1), (1, 99), (99, 99), (5, 5), (5, 6), (9, 10)]:
            self.right(f"if from {low} to {high} keep ;")
        for low, high in [(0, 1), (0, 0), (100, 100), (100, 1), (1000000000, 5)]:
            self.fault(f"if from {low} to {high} keep ;", 7, 8)
        for low, high in [(2, 1), (5, 4), (9, 0), (1, 0), (1, 100), (5, 100), (9, 1000000000)]:
            self.fault(f"if from {low} to {high} keep ;", 7, 13)
        for low, high in [(99, 98), (10, 9), (99, 100), (99, 0)]:
            self.fault(f"if from {low} to {high} keep ;", 7, 14)

    def test_skip(self):
        for number in range(1, 10):
            self.right(f"skip {number} ;")
        for number in (0, 10, 11, 99, 1000000000):
            self.fault(f"skip {number} ;", 7, 5)


class Letters(Reading):
    """W, A and B stand for words that are not the script's own."""

    SPOTS = ["if has {} keep ;", "if is {} keep ;", "before {} ;", "after {} ;", "change {} ;",
             "swap {} a ;", "swap {} none ;", "first {} a ;", "first {} none ;"]
    SECOND = ["swap a {} ;", "first a {} ;"]

    def test_letters(self):
        for spot in self.SPOTS + self.SECOND:
            for word in ("a", "z", "ab", "abcdefgh", "nona", "iff", "lines", "deletes", "als"):
                self.right(spot.format(word))

    def test_the_same_letters_twice(self):
        self.right("swap a a ;", "first ab ab ;")

    def test_own_words(self):
        for word in oracle.OWN:
            for spot in self.SPOTS:
                self.fault(spot.format(word), 3, spot.index("{}"))
            if word != "none":
                for spot in self.SECOND:
                    self.fault(spot.format(word), 3, spot.index("{}"))

    def test_none_in_place_of_b_alone(self):
        self.right("swap a none ;", "first a none ;")
        for spot in self.SPOTS:
            self.fault(spot.format("none"), 3, spot.index("{}"))
        self.fault("none ;", 3, 0)
        self.fault("if none keep ;", 3, 3)
        self.fault("swap none none ;", 3, 5)
        self.fault("swap a none none ;", 3, 12)
        self.fault("skip none ;", 3, 5)

    def test_other_tokens(self):
        for spot in self.SPOTS + self.SECOND:
            for token in (";", "0", "1", "1000000000"):
                self.fault(spot.format(token), 3, spot.index("{}"))


class NotAllowed(Reading):
    """3 at the first token that is not allowed where it stands."""

    def test_a_script_that_breaks_off(self):
        for script in WAYS + [" ".join(WAYS)]:
            words = script.split()
            for count in range(len(words) + 1):
                for end in ("", " ", "\n", " # keep ;", "# ;\n\t"):
                    told = " ".join(words[:count]) + end
                    if count == 0 or words[count - 1] == ";":
                        self.right(told)
                    else:
                        self.fault(told, 3, len(told))

    def test_another_token_at_each_place(self):
        others = oracle.OWN + [";", "w", "1", "0", "100"]
        for script in WAYS:
            words = script.split()
            for place in range(len(words)):
                for other in others:
                    told = " ".join(words[:place] + [other] + words[place + 1:]).encode()
                    self.assertEqual(checked(told), script_oracle.check(told, []), told)

    def test_a_token_more_at_each_place(self):
        others = oracle.OWN + [";", "w", "1", "0", "100"]
        for script in WAYS:
            words = script.split()
            for place in range(len(words) + 1):
                for other in others:
                    told = " ".join(words[:place] + [other] + words[place:]).encode()
                    self.assertEqual(checked(told), script_oracle.check(told, []), told)

    def test_where_a_command_begins(self):
        for token in oracle.OWN + [";", "a", "1"]:
            if token not in oracle.VERBS + ["if"]:
                self.fault(token, 3, 0)
                self.fault("keep ; " + token + " ;", 3, 7)

    def test_chosen_ones(self):
        self.fault(";", 3, 0)
        self.fault("keep ;;", 3, 6)
        self.fault("keep", 3, 4)
        self.fault("keep keep ;", 3, 5)
        self.fault("if keep ;", 3, 3)
        self.fault("if if all keep ;", 3, 3)
        self.fault("if all ;", 3, 7)
        self.fault("if all if all keep ;", 3, 7)
        self.fault("if all all keep ;", 3, 7)
        self.fault("all keep ;", 3, 0)
        self.fault("delete all ;", 3, 7)
        self.fault("if line keep ;", 3, 8)
        self.fault("if line a keep ;", 3, 8)
        self.fault("if last 1 keep ;", 3, 8)
        self.fault("if from 1 2 keep ;", 3, 10)
        self.fault("if from 1 to to keep ;", 3, 13)
        self.fault("if from to 2 keep ;", 3, 8)
        self.fault("if 1 keep ;", 3, 3)
        self.fault("if has 1 keep ;", 3, 7)
        self.fault("change a b ;", 3, 9)
        self.fault("swap a ;", 3, 7)
        self.fault("swap a b c ;", 3, 9)
        self.fault("skip ;", 3, 5)
        self.fault("skip 1 2 ;", 3, 7)


class Form(Reading):
    """What is answered of a script that is right, and of one that is not."""

    def test_right(self):
        one, other = (["a"], ["a"]), (["a"], ["b"])
        self.assertEqual(ask(check("")), [[1, 0]])
        self.assertEqual(checked("", [one]), [1, 1, 0])
        self.assertEqual(checked("", [other]), [1, 0, 2])
        self.assertEqual(checked("", [one, other, one]), [1, 2, 0, 2, 0])
        self.assertEqual(checked("swap a aaaaaaaa ; swap a aaaaaaaa ;", [one, (["b"], []), (["b"], ["b"])]),
                         [1, 1, 1000, 1, 0])

    def test_a_fault_is_told_alike_whatever_is_held(self):
        for count in range(5):
            held = [(["a"], ["a"])] * count
            self.assertEqual(checked("keep", held), [0, 3, 4])
            self.assertEqual(checked("!", held), [0, 2, 0])

    def test_several_checks(self):
        told = ask(check("keep"), example(["a"], []), check("delete ;"), check("!"), check("delete ;"))
        self.assertEqual(told, [[0, 3, 4], [1], [1, 1, 0], [0, 2, 0], [1, 1, 0]])


class ManyScripts(unittest.TestCase):
    """Many scripts, right and wrong, that are made here."""

    def test_just_what_the_document_says(self):
        rng = random.Random(7)
        seen = {}
        for _ in range(6000):
            words = made_script(rng, rng.choice([1, 2, 4, 18]))
            told = written(rng, spoiled(rng, words) if rng.random() < 0.8 else words)
            if rng.random() < 0.1:
                place = rng.randint(0, len(told))
                told = told[:place] + bytes([rng.randrange(256)]) + told[place + 1:]
            wanted = script_oracle.check(told, [])
            self.assertEqual(checked(told), wanted, told)
            kind = wanted[1] if wanted[0] == 0 else 0
            seen[kind] = seen.get(kind, 0) + 1
        self.assertEqual(sorted(seen), [0, 2, 3, 4, 7])
        self.assertGreater(min(seen.values()), 50, seen)


if __name__ == "__main__":
    unittest.main()
