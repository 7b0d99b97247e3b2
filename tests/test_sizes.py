import itertools
import random
import unittest

from moleculeparts.parts import sizes
from tests.helper import Molecule, ask, atom, bond, check_one_form_refusals, least_bases, molecule, molecule_form, pieces
from tests.helper import redrawings, redrawn, renumbered, rings, round_pairs, row_of, shape, short_by_trial
from tests.helper import some_molecule, some_rings, sums_of, turned_molecule

SIX_RING = [bond(0, 1, 2), bond(0, 5), bond(1, 2), bond(2, 3, 2), bond(3, 4), bond(4, 5, 2)]


class SizesTest(unittest.TestCase):
    def lengths_are(self, mol, lengths):
        self.assertEqual(ask(self, sizes, molecule_form(mol)), [0, len(lengths)] + lengths)

    def shape_has(self, n, pairs, lengths):
        self.lengths_are(shape(n, pairs), lengths)


class LengthsTest(SizesTest):
    def test_how_many_there_are_is_ahead_of_them(self):
        self.assertEqual(ask(self, sizes, molecule([atom()] * 6, SIX_RING)), [0, 1, 6])
        two = molecule_form(shape(7, round_pairs(0, 1, 2) + round_pairs(3, 4, 5, 6)))
        self.assertEqual(ask(self, sizes, two), [0, 2, 3, 4])

    def test_no_ring(self):
        self.assertEqual(ask(self, sizes, molecule([])), [0, 0])
        for n in range(10):
            self.shape_has(n, [], [])
            self.shape_has(n, [(k, k + 1) for k in range(n - 1)], [])
            self.shape_has(n, [(0, k) for k in range(1, n)], [])
        self.shape_has(9, [(0, 1), (2, 3), (3, 4), (3, 5), (7, 8)], [])

    def test_one_ring_of_each_length(self):
        for n in range(3, 10):
            self.shape_has(n, round_pairs(*range(n)), [n])
            for tail in range(n, 9):
                self.shape_has(9, round_pairs(*range(n)) + [(k, k + 1) for k in range(n - 1, tail)], [n])

    def test_double_and_triple_bonds_are_no_rings(self):
        for order in (1, 2, 3):
            self.lengths_are(Molecule([atom()] * 2, [bond(0, 1, order)]), [])

    def test_two_that_share_nothing(self):
        self.shape_has(6, round_pairs(0, 2, 4) + round_pairs(1, 3, 5), [3, 3])
        self.shape_has(9, round_pairs(0, 1, 2, 3, 4) + round_pairs(5, 6, 7, 8), [4, 5])
        self.shape_has(9, round_pairs(0, 1, 2) + round_pairs(3, 4, 5) + round_pairs(6, 7, 8), [3, 3, 3])
        self.shape_has(8, round_pairs(0, 1, 2, 3) + [(3, 4), (4, 5)] + round_pairs(5, 6, 7), [3, 4])

    def test_two_that_share_an_atom(self):
        self.shape_has(5, round_pairs(0, 1, 2) + round_pairs(2, 3, 4), [3, 3])
        self.shape_has(9, round_pairs(0, 1, 2, 3, 4) + round_pairs(0, 5, 6, 7, 8), [5, 5])

    def test_two_that_share_a_bond(self):
        self.shape_has(4, round_pairs(0, 1, 2, 3) + [(1, 3)], [3, 3])
        self.shape_has(9, round_pairs(0, 1, 2, 3, 4, 5, 6, 7, 8) + [(0, 5)], [5, 6])
        self.shape_has(6, round_pairs(0, 1, 2, 3, 4, 5) + [(0, 2)], [3, 5])

    def test_two_that_share_several_bonds(self):
        # Ways of two, two and three bonds between the ends, and so on: the two least of three rings.
        self.shape_has(7, round_pairs(0, 1, 2, 3, 4, 5) + [(0, 6), (6, 3)], [5, 5])
        self.shape_has(8, round_pairs(0, 1, 2, 3, 4, 5) + [(0, 6), (6, 7), (7, 3)], [6, 6])
        self.shape_has(5, [(0, 2), (0, 3), (0, 4), (1, 2), (1, 3), (1, 4)], [4, 4])
        self.shape_has(7, [(0, 2), (2, 1), (0, 3), (3, 1), (0, 4), (4, 5), (5, 6), (6, 1)], [4, 6])

    def test_cages(self):
        self.shape_has(4, itertools.combinations(range(4), 2), [3, 3, 3])
        self.shape_has(5, itertools.combinations(range(5), 2), [3] * 6)
        prism = round_pairs(0, 1, 2) + round_pairs(3, 4, 5) + [(0, 3), (1, 4), (2, 5)]
        self.shape_has(6, prism, [3, 3, 4, 4])
        cube = round_pairs(0, 1, 2, 3) + round_pairs(4, 5, 6, 7) + [(0, 4), (1, 5), (2, 6), (3, 7)]
        self.shape_has(8, cube, [4] * 5)
        eight_faces = [(a, b) for a, b in itertools.combinations(range(6), 2) if a + b != 5]
        self.shape_has(6, eight_faces, [3] * 7)
        self.shape_has(7, itertools.product(range(3), range(3, 7)), [4] * 6)
        self.shape_has(8, itertools.product(range(2), range(2, 8)), [4] * 5)

    def test_rings_and_a_longer_one_around_them(self):
        self.shape_has(9, round_pairs(*range(7)) + [(0, 7), (7, 1), (3, 8), (8, 4)], [3, 3, 7])
        self.shape_has(9, round_pairs(*range(9)) + [(0, 2), (2, 4), (4, 6)], [3, 3, 3, 6])


class AsManyTest(SizesTest):
    def test_as_many_as_bonds_less_atoms_and_pieces_more(self):
        lot = random.Random(101)
        numbers = {}
        for k in range(200):
            mol = some_rings(lot, lot.randint(0, 9), lot.randint(0, 12))
            lengths = row_of(self, ask(self, sizes, molecule_form(mol)))
            self.assertEqual(len(lengths), len(mol.bonds) - len(mol.atoms) + len(pieces(mol)))
            self.assertEqual(lengths, sorted(lengths))
            numbers[len(lengths)] = numbers.get(len(lengths), 0) + 1
        self.assertGreater(min(numbers[x] for x in range(7)), 3)

    def test_several_pieces(self):
        for many in (1, 2, 3):
            pairs = [pair for k in range(many) for pair in round_pairs(3 * k, 3 * k + 1, 3 * k + 2)]
            self.shape_has(9, pairs, [3] * many)
            self.shape_has(9, pairs[1:], [3] * (many - 1))


class AgainstTrialTest(SizesTest):
    def test_no_rings_of_which_each_is_a_sum_have_fewer_atoms(self):
        lot = random.Random(102)
        several = 0
        more_short = 0
        tried = 0
        while tried < 80:
            mol = some_rings(lot, lot.randint(4, 7), lot.randint(5, 9))
            if len(rings(mol)) <= 9:
                tried += 1
                bases = least_bases(mol)
                several += len(bases) > 1
                lengths = row_of(self, ask(self, sizes, molecule_form(mol)))
                more_short += len(short_by_trial(mol)) > len(lengths)
                for rows in bases:
                    self.assertEqual(sorted(len(row) for row in rows), lengths)
        self.assertGreater(several, 15)
        self.assertGreater(more_short, 15)

    def test_at_each_length_as_many_as_the_sums_grow_by(self):
        lot = random.Random(103)
        for k in range(12):
            mol = some_rings(lot, lot.randint(7, 9), 12)
            found = rings(mol)
            lengths = []
            for length in range(3, 10):
                shorter = len(sums_of([row for row in found if len(row) < length]))
                upto = len(sums_of([row for row in found if len(row) <= length]))
                lengths += [length] * ((upto // shorter).bit_length() - 1)
            self.lengths_are(mol, lengths)

    def test_more_short_rings_than_a_least_basis_has(self):
        for n, pairs in ((4, itertools.combinations(range(4), 2)), (5, itertools.product(range(2), range(2, 5))),
                         (7, [(0, 2), (2, 1), (0, 3), (3, 1), (0, 4), (4, 5), (5, 6), (6, 1)]),
                         (8, round_pairs(0, 1, 2, 3, 4, 5) + [(0, 6), (6, 7), (7, 3)])):
            mol = shape(n, pairs)
            lengths = row_of(self, ask(self, sizes, molecule_form(mol)))
            self.assertGreater(len(short_by_trial(mol)), len(lengths))
            self.assertGreater(len(least_bases(mol)), 1)
            for rows in least_bases(mol):
                self.assertEqual(sorted(len(row) for row in rows), lengths)


class OtherwiseTest(SizesTest):
    def test_orders_elements_hands_and_sides_do_not_matter(self):
        lot = random.Random(104)
        turns = 0
        for k in range(60):
            mol = turned_molecule(lot) if k % 3 == 0 else some_molecule(lot, lot.randint(3, 7), 8)
            turns += any(x.hand for x in mol.atoms) or any(x.side for x in mol.bonds)
            lengths = row_of(self, ask(self, sizes, molecule_form(mol)))
            self.shape_has(len(mol.atoms), [(x.a, x.b) for x in mol.bonds], lengths)
            atoms = [atom(lot.randint(1, 118), lot.randint(0, 500), lot.randint(-4, 4), lot.randint(0, 7))
                     for x in mol.atoms]
            self.lengths_are(Molecule(atoms, [bond(x.a, x.b, lot.randint(1, 3)) for x in mol.bonds]), lengths)
        self.assertGreater(turns, 20)

    def test_redrawn(self):
        lot = random.Random(105)
        several = 0
        for k in range(40):
            mol = some_molecule(lot, lot.randint(3, 6), 8)
            rows = redrawings(mol)
            several += len(rows) > 1
            lengths = row_of(self, sizes(molecule_form(mol)))
            self.lengths_are(redrawn(mol, lot.choice(rows)), lengths)
        self.assertGreater(several, 5)

    def test_renumbered(self):
        lot = random.Random(106)
        for k in range(80):
            mol = some_molecule(lot, lot.randint(3, 7), 8) if k % 2 else some_rings(lot, lot.randint(5, 9), 12)
            row = list(range(len(mol.atoms)))
            lot.shuffle(row)
            self.lengths_are(renumbered(mol, row), row_of(self, sizes(molecule_form(mol))))


class RefusalTest(SizesTest):
    def test_faulty_molecule(self):
        check_one_form_refusals(self, sizes)

    def test_a_side_in_a_ring_that_is_not_fixed(self):
        form = molecule([atom()] * 6, [bond(0, 1, 2, 1)] + SIX_RING[1:])
        self.assertEqual(ask(self, sizes, form), [-5, 0, 6, 45])


if __name__ == "__main__":
    unittest.main()
