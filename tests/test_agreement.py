"""Tests that images and the meaning agree for programs with all kinds of parts (points 5.6, 5.7, 10.4 and 10.5)."""

import collections
import copy
import random
import unittest

from generating import make_configuration, make_packet
from wholepackets.entries import choose, matches
from wholepackets.errors import BuildError
from wholepackets.images import build, choice, enter_unit, pass_unit, run_image
from wholepackets.layout import widths
from wholepackets.meaning import choices, process
from wholepackets.nodes import compile_control, stages
from wholepackets.parsing import parse_program
from wholepackets.rules import check, width_of
from wholepackets.writing import write_program

MANY = 300


def configurations():
    """Return some configurations, the same ones in each run."""
    return [make_configuration(random.Random(seed)) for seed in range(MANY)]


class AgreementTest(unittest.TestCase):
    @classmethod
    def setUpClass(cls):
        cls.made = configurations()

    def test_programs_are_valid_and_can_be_written(self):
        for program, _ in self.made:
            self.assertIsNone(check(program))
            self.assertEqual(parse_program(write_program(program)), program)

    def test_image_gives_what_the_meaning_gives(self):
        kinds = collections.Counter()
        for seed, given in enumerate(self.made):
            source = random.Random(seed)
            kept = copy.deepcopy(given)
            image = self.built(given)
            if image is None:
                kinds["build"] += 1
                continue
            again = copy.deepcopy(image)
            for _ in range(12):
                packet, port = make_packet(source), source.randint(0, 7)
                before = list(packet)
                result = process(given, packet, port)
                self.assertEqual(run_image(image, packet, port), result)
                self.assertEqual(self.passed(image, packet, port), (result, choices(given, packet, port)))
                self.assertEqual(packet, before)
                kinds[result[0] if result[0] == "out" else result[1]] += 1
            self.assertEqual((given, image), (kept, again))
        # The programs would tell little if they treated all packets in one way.
        for kind in ("out", "parse", "control", "size"):
            self.assertGreater(kinds[kind], 50, msg=kind)

    def built(self, given):
        """Return the image of a configuration, or None if its control needs too many stages."""
        try:
            return build(given)
        except BuildError:
            self.assertGreater(max(stages(compile_control(given[0]))), 11)
            return None

    def passed(self, image, packet, port):
        """Return the result for a packet and the choices of the units."""
        treatment = enter_unit(image[0], packet, port)
        found = []
        for unit in image[1:]:
            made = choice(unit, treatment)
            if made is not None:
                found.append(made)
            treatment = pass_unit(unit, treatment)
        return (treatment, found)

    def test_cells_stay_within_their_widths(self):
        for seed, given in enumerate(self.made):
            source = random.Random(seed)
            image = self.built(given)
            if image is None:
                continue
            sizes = widths(given[0])
            treatment = enter_unit(image[0], make_packet(source), source.randint(0, 7))
            for unit in image[1:]:
                if treatment[0] == "run":
                    self.assertEqual(len(treatment[1]), len(sizes))
                    self.assertTrue(all(0 <= cell < 2 ** size for cell, size in zip(treatment[1], sizes)))
                treatment = pass_unit(unit, treatment)

    def test_chosen_entry_is_the_best_that_matches(self):
        for seed, (program, entries) in enumerate(self.made):
            source = random.Random(seed)
            for _, name, keys, _, _, _ in program[6]:
                greatest = [2 ** width_of(program, pair) - 1 for pair, _ in keys]
                values = [source.choice([0, 1, source.randint(0, top)]) for top in greatest]
                rows = entries[name]
                ranks = []
                for index, row in enumerate(rows):
                    lengths = [item[1] for item, (_, kind) in zip(row[1], keys) if kind == "prefix"]
                    if matches(program, name, row, values):
                        ranks.append((row[2], sum(lengths), -index))
                expected = -max(ranks)[2] if ranks else -1
                self.assertEqual(choose(program, name, rows, values), expected)


if __name__ == "__main__":
    unittest.main()
