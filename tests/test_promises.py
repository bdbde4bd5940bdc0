"""The promises 1, 2 and 5, over many examples that are made here."""

import random
import unittest

import oracle
from asking import found
from making import made_pairs, made_text


class WhatIsFound(unittest.TestCase):
    """Promises 1 and 2."""

    def test_it_fits_all_examples(self):
        seen = 0
        for pairs in made_pairs(3, 400):
            script = found(pairs)
            if script == -8:
                continue
            seen += 1
            for before, after in pairs:
                self.assertEqual(oracle.run(script, before), after, (pairs, script))
        self.assertGreater(seen, 200)

    def test_as_few_commands_and_bytes_as_can_be(self):
        for pairs in made_pairs(4, 120):
            script = found(pairs)
            if script == -8:
                continue
            count = script.count("\n")
            self.assertEqual(count == 0, oracle.fits("", pairs), pairs)
            if count == 0:
                continue
            alone = [len(command) for command in oracle.commands(pairs) if oracle.fits(command, pairs)]
            if count == 1:
                self.assertIn(script, oracle.commands(pairs))
                self.assertEqual(len(script), min(alone), pairs)
                continue
            self.assertEqual(alone, [], pairs)
            useful = oracle.all_useful(pairs)[:40]
            self.assertTrue(set(script.splitlines(keepends=True)) <= set(useful), pairs)
            scripts = [one + other for one in useful for other in useful]
            self.assertEqual(len(script), min(len(two) for two in scripts if oracle.fits(two, pairs)), pairs)

    def test_where_nothing_is_found_nothing_fits(self):
        seen = 0
        for pairs in made_pairs(5, 200):
            if found(pairs) != -8:
                continue
            seen += 1
            self.assertFalse(oracle.fits("", pairs), pairs)
            self.assertEqual([command for command in oracle.commands(pairs) if oracle.fits(command, pairs)], [], pairs)
            self.assertIsNone(oracle.least_of_two(oracle.all_useful(pairs)[:40], pairs), pairs)
        self.assertGreater(seen, 20)


class Deletions(unittest.TestCase):
    """Promise 5."""

    def look(self, before, address):
        """Look at what is found of what a deletion at this address makes of a text."""
        deletion = "delete ;\n" if address == "all" else f"if {address} delete ;\n"
        after = oracle.run(deletion, before)
        script = found([(before, after)])
        self.assertNotEqual(script, -8, (before, address))
        self.assertEqual(script.count("\n"), int(before != after), (before, address))
        self.assertEqual(oracle.run(script, before), after, (before, address))

    def test_each_address_of_made_texts(self):
        rng = random.Random(6)
        for _ in range(60):
            before = made_text(rng, rng.choice(["ab", "abc", "abcdefgh"]), 6)
            for address in oracle.addresses([(before, [])]):
                self.look(before, address)

    def test_each_address_of_chosen_texts(self):
        chosen = [
            [], [""], ["a"], ["", "", ""], ["if", "none", "a"], ["abcdefghijklmnop", "a", ""],
            ["a", "a", "a", "a", "a", "a"], ["abcdefgh", "abcdefghi", "h", "g", "ab", "ba"],
        ]
        for before in chosen:
            for address in oracle.addresses([(before, [])]):
                self.look(before, address)


if __name__ == "__main__":
    unittest.main()
