"""The promises 1, 2, 4 and 5, over many examples that are made here; point 3 is looked at in test_far.py."""

import random
import unittest

import oracle
from asking import ALL, NEAREST, ask_of, check, checked, found, scripts_in
from making import made_pairs, made_text


def checked_each(scripts, pairs):
    """What check answers of each of these scripts where these examples are held."""
    told = []
    at_once = 10 - len(pairs)
    for place in range(0, len(scripts), at_once):
        told += ask_of(pairs, *[check(script) for script in scripts[place:place + at_once]])
    return told


class WhatIsFound(unittest.TestCase):
    """Promises 1 and 2."""

    def test_it_fits_all_examples(self):
        seen = 0
        for pairs in made_pairs(3, 400):
            script = found(pairs)
            if script == -8:
                continue
            seen += 1
            for before, after in pairs:
                self.assertEqual(oracle.run(script, before), after, (pairs, script))
        self.assertGreater(seen, 200)

    def test_as_few_commands_and_bytes_as_can_be(self):
        for pairs in made_pairs(4, 120):
            script = found(pairs)
            if script == -8:
                continue
            count = script.count("\n")
            self.assertEqual(count == 0, oracle.fits("", pairs), pairs)
            if count == 0:
                continue
            alone = [len(command) for command in oracle.commands(pairs) if oracle.fits(command, pairs)]
            if count == 1:
                self.assertIn(script, oracle.commands(pairs))
                self.assertEqual(len(script), min(alone), pairs)
                continue
            self.assertEqual(alone, [], pairs)
            useful = oracle.all_useful(pairs)[:40]
            self.assertTrue(set(script.splitlines(keepends=True)) <= set(useful), pairs)
            scripts = [one + other for one in useful for other in useful]
            self.assertEqual(len(script), min(len(two) for two in scripts if oracle.fits(two, pairs)), pairs)

    def test_where_nothing_is_found_nothing_fits(self):
        seen = 0
        for pairs in made_pairs(5, 200):
            if found(pairs) != -8:
                continue
            seen += 1
            self.assertFalse(oracle.fits("", pairs), pairs)
            self.assertEqual([command for command in oracle.commands(pairs) if oracle.fits(command, pairs)], [], pairs)
            self.assertIsNone(oracle.least_of_two(oracle.all_useful(pairs)[:40], pairs), pairs)
        self.assertGreater(seen, 20)


class ScriptsOfTheFamily(unittest.TestCase):
    """Promise 4."""

    def look(self, pairs):
        """Look at what check answers of each command of the family, and at the nearest."""
        commands = oracle.commands(pairs)
        answers = checked_each(commands, pairs)
        self.assertEqual([answer[0] for answer in answers], [1] * len(commands), pairs)
        self.assertEqual([len(answer) for answer in answers], [2 + len(pairs)] * len(commands), pairs)
        sums = [sum(answer[2:]) for answer in answers]
        nearest, fitting = ask_of(pairs, NEAREST, ALL)
        self.assertEqual(nearest[0], min(sums), pairs)
        self.assertEqual(scripts_in(nearest[1:]), [commands[sums.index(min(sums))]], pairs)
        fits = [command for command, answer in zip(commands, answers) if answer[1] == len(pairs)]
        self.assertEqual((fitting[0], scripts_in(fitting[1:])), (len(fits), fits[:10]), pairs)

    def test_each_command_of_made_examples(self):
        for pairs in made_pairs(21, 60):
            self.look(pairs)

    def test_each_command_of_chosen_examples(self):
        self.look([])
        self.look([([], [])])
        self.look([(["if", "none", "a"], ["not", "b", "is"])])
        self.look([(["abcdefgh", "abcdefghi"], ["stuvwxyz", "all"])])
        self.look([(["a", "", "b"], ["", "b", "a"]), (["b"], ["a"]), ([], ["b"]), (["a", "a"], [])])

    def test_each_command_of_the_greatest_family(self):
        pairs = [(list("abcdef"), list("ghijkl")), (["ab", "bc", "cd", "de", "ef", "fa"], ["gh"] + ["hi"] * 5)]
        pairs += [([], ["ij", "jk", "kl", "lg", "z"])]
        self.assertEqual(len(oracle.commands(pairs)), 4029)
        self.look(pairs)

    def test_scripts_of_two_commands(self):
        rng = random.Random(22)
        for pairs in made_pairs(23, 150):
            commands = oracle.commands(pairs)
            script = rng.choice(commands) + rng.choice(commands)
            self.assertEqual(checked(script, pairs)[0], 1, (pairs, script))

    def test_what_is_found_fits_by_check(self):
        for pairs in made_pairs(24, 150):
            script = found(pairs)
            if script != -8:
                self.assertEqual(checked(script, pairs), [1, len(pairs)] + [0] * len(pairs), pairs)


class Deletions(unittest.TestCase):
    """Promise 5."""

    def look(self, before, address):
        """Look at what is found of what a deletion at this address makes of a text."""
        deletion = "delete ;\n" if address == "all" else f"if {address} delete ;\n"
        after = oracle.run(deletion, before)
        script = found([(before, after)])
        self.assertNotEqual(script, -8, (before, address))
        self.assertEqual(script.count("\n"), int(before != after), (before, address))
        self.assertEqual(oracle.run(script, before), after, (before, address))
        told = ask_of([(before, after)], check(deletion), check(script), ALL, NEAREST)
        self.assertEqual(told[:2], [[1, 1, 0]] * 2, (before, address))
        self.assertGreater(told[2][0], 0, (before, address))
        self.assertEqual(told[3][0], 0, (before, address))

    def test_each_address_of_made_texts(self):
        rng = random.Random(6)
        for _ in range(30):
            before = made_text(rng, rng.choice(["ab", "abc", "abcdefgh"]), 6)
            for address in oracle.addresses([(before, [])]):
                self.look(before, address)

    def test_each_address_of_chosen_texts(self):
        chosen = [
            [], [""], ["a"], ["", "", ""], ["if", "none", "a"], ["abcdefghijklmnop", "a", ""],
            ["a", "a", "a", "a", "a", "a"], ["abcdefgh", "abcdefghi", "h", "g", "ab", "ba"],
        ]
        for before in chosen:
            for address in oracle.addresses([(before, [])]):
                self.look(before, address)


if __name__ == "__main__":
    unittest.main()
