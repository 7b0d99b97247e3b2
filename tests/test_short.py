import itertools
import random
import unittest

from moleculeparts.parts import short, sizes
from tests.helper import Molecule, ask, atom, bond, check_one_form_refusals, least_bases, molecule, molecule_form
from tests.helper import redrawings, redrawn, renumbered, ring_row, rings, round_pairs, row_of, rows_told, shape
from tests.helper import short_by_trial, some_molecule, some_rings, turned_molecule

SIX_RING = [bond(0, 1, 2), bond(0, 5), bond(1, 2), bond(2, 3, 2), bond(3, 4), bond(4, 5, 2)]
BENZENE = molecule([atom(hydrogens=1)] * 6, SIX_RING)


class ShortTest(unittest.TestCase):
    def rows_are(self, mol, rows):
        self.assertEqual(rows_told(self, short, molecule_form(mol)), rows)

    def shape_has(self, n, pairs, rows):
        self.rows_are(shape(n, pairs), rows)


class RowTest(ShortTest):
    def test_its_length_is_ahead_of_it(self):
        self.assertEqual(ask(self, short, 0, BENZENE), [0, 6, 0, 1, 2, 3, 4, 5])
        two = molecule_form(shape(7, round_pairs(0, 1, 2, 3) + round_pairs(4, 5, 6)))
        self.assertEqual(ask(self, short, 0, two), [0, 3, 4, 5, 6])
        self.assertEqual(ask(self, short, 1, two), [0, 4, 0, 1, 2, 3])
        self.assertEqual(ask(self, short, 2, two), [-2])

    def test_it_begins_with_its_least_atom_and_goes_on_to_the_lesser_beside_it(self):
        self.shape_has(4, round_pairs(0, 3, 1, 2), [[0, 2, 1, 3]])
        self.shape_has(6, round_pairs(5, 2, 4, 3), [[2, 4, 3, 5]])
        self.shape_has(9, round_pairs(8, 1, 7, 2, 6, 3, 5), [[1, 7, 2, 6, 3, 5, 8]])
        for atoms in itertools.permutations((1, 3, 4, 6, 7)):
            self.shape_has(8, round_pairs(*atoms), [list(ring_row(atoms))])

    def test_no_ring(self):
        self.assertEqual(ask(self, short, 0, molecule([])), [-2])
        for n in range(10):
            self.shape_has(n, [], [])
            self.shape_has(n, [(k, k + 1) for k in range(n - 1)], [])
            self.shape_has(n, [(0, k) for k in range(1, n)], [])

    def test_one_ring_of_each_length(self):
        for n in range(3, 10):
            self.shape_has(n, round_pairs(*range(n)), [list(range(n))])
            self.shape_has(9, round_pairs(*range(9 - n, 9)), [list(range(9 - n, 9))])

    def test_double_and_triple_bonds_are_no_rings(self):
        for order in (1, 2, 3):
            self.rows_are(Molecule([atom()] * 2, [bond(0, 1, order)]), [])


class OrderTest(ShortTest):
    def test_by_length_then_by_row(self):
        self.shape_has(9, round_pairs(0, 1, 2, 3, 4) + round_pairs(5, 6, 7, 8), [[5, 6, 7, 8], [0, 1, 2, 3, 4]])
        self.shape_has(9, round_pairs(2, 5, 8) + round_pairs(0, 6, 7) + round_pairs(1, 3, 4),
                       [[0, 6, 7], [1, 3, 4], [2, 5, 8]])

    def test_rows_that_begin_alike(self):
        self.shape_has(5, round_pairs(0, 1, 3) + round_pairs(0, 2, 4), [[0, 1, 3], [0, 2, 4]])
        self.shape_has(5, round_pairs(0, 1, 4) + round_pairs(0, 2, 3), [[0, 1, 4], [0, 2, 3]])
        self.shape_has(4, itertools.combinations(range(4), 2), [[0, 1, 2], [0, 1, 3], [0, 2, 3], [1, 2, 3]])

    def test_by_rows_not_by_their_sets(self):
        # By their atoms, rising, 0 1 3 4 would be before 0 2 5 6.
        self.shape_has(7, round_pairs(0, 3, 1, 4) + round_pairs(0, 2, 5, 6), [[0, 2, 5, 6], [0, 3, 1, 4]])


class WhichTest(ShortTest):
    def test_a_ring_round_two_is_their_sum(self):
        self.shape_has(4, round_pairs(0, 1, 2, 3) + [(1, 3)], [[0, 1, 3], [1, 2, 3]])
        self.shape_has(9, round_pairs(*range(9)) + [(0, 5)], [[0, 5, 6, 7, 8], [0, 1, 2, 3, 4, 5]])

    def test_no_sum_of_shorter_ones_though_of_another_as_long(self):
        # Ways of two, two and four bonds between 0 and 1.
        pairs = [(0, 2), (2, 1), (0, 3), (3, 1), (0, 4), (4, 5), (5, 6), (6, 1)]
        self.shape_has(7, pairs, [[0, 2, 1, 3], [0, 2, 1, 6, 5, 4], [0, 3, 1, 6, 5, 4]])
        # Ways of two, two and three bonds, then three and three and three.
        self.shape_has(7, round_pairs(0, 1, 2, 3, 4, 5) + [(0, 6), (6, 3)], [[0, 1, 2, 3, 6], [0, 5, 4, 3, 6]])
        self.shape_has(8, round_pairs(0, 1, 2, 3, 4, 5) + [(0, 6), (6, 7), (7, 3)],
                       [[0, 1, 2, 3, 4, 5], [0, 1, 2, 3, 7, 6], [0, 5, 4, 3, 7, 6]])

    def test_cages(self):
        prism = round_pairs(0, 1, 2) + round_pairs(3, 4, 5) + [(0, 3), (1, 4), (2, 5)]
        self.shape_has(6, prism, [[0, 1, 2], [3, 4, 5], [0, 1, 4, 3], [0, 2, 5, 3], [1, 2, 5, 4]])
        cube = round_pairs(0, 1, 2, 3) + round_pairs(4, 5, 6, 7) + [(0, 4), (1, 5), (2, 6), (3, 7)]
        self.shape_has(8, cube, [[0, 1, 2, 3], [0, 1, 5, 4], [0, 3, 7, 4], [1, 2, 6, 5], [2, 3, 7, 6], [4, 5, 6, 7]])
        eight_faces = [(a, b) for a, b in itertools.combinations(range(6), 2) if a + b != 5]
        self.shape_has(6, eight_faces, [[0, 1, 2], [0, 1, 3], [0, 2, 4], [0, 3, 4], [1, 2, 5], [1, 3, 5], [2, 4, 5],
                                        [3, 4, 5]])

    def test_rings_of_four_between_three_and_four_atoms(self):
        rows = [[a, c, b, d] for a, b in ((0, 1), (0, 2), (1, 2)) for c, d in itertools.combinations(range(3, 7), 2)]
        self.shape_has(7, itertools.product(range(3), range(3, 7)), sorted(rows))

    def test_a_longer_one_that_no_others_make(self):
        self.shape_has(9, round_pairs(*range(7)) + [(0, 7), (7, 1), (3, 8), (8, 4)],
                       [[0, 1, 7], [3, 4, 8], [0, 1, 2, 3, 4, 5, 6]])


class HowManyTest(ShortTest):
    def test_around_the_number_of_short_rings(self):
        form = molecule_form(shape(7, itertools.product(range(3), range(3, 7))))
        self.assertEqual(ask(self, short, 0, form), [0, 4, 0, 3, 1, 4])
        self.assertEqual(ask(self, short, 17, form), [0, 4, 1, 5, 2, 6])
        for k in (18, 19, 255, 256, 65535, 65536, 2 ** 31 - 1, 2 ** 31, 2 ** 32 - 2, 2 ** 32 - 1):
            self.assertEqual(ask(self, short, k, form), [-2])

    def test_far_above(self):
        for k in (1, 2, 6, 255, 256, 65536, 2 ** 31, 2 ** 32 - 1):
            self.assertEqual(ask(self, short, k, BENZENE), [-2])
            self.assertEqual(ask(self, short, k, molecule([])), [-2])


class AgainstTrialTest(ShortTest):
    def test_just_those_that_are_no_sums_of_shorter_ones(self):
        lot = random.Random(111)
        numbers = {"none": 0, "all": 0, "some": 0}
        for k in range(100):
            mol = some_rings(lot, lot.randint(3, 7), lot.randint(3, 12))
            rows = short_by_trial(mol)
            self.rows_are(mol, rows)
            if rows:
                numbers["all" if len(rows) == len(rings(mol)) else "some"] += 1
            else:
                numbers["none"] += 1
        self.assertGreater(min(numbers.values()), 5)

    def test_the_most_that_is_handed_in(self):
        lot = random.Random(112)
        for k in range(12):
            mol = some_rings(lot, lot.randint(8, 9), 12)
            self.rows_are(mol, short_by_trial(mol))

    def test_just_those_that_some_least_basis_has(self):
        lot = random.Random(113)
        several = 0
        tried = 0
        while tried < 60:
            mol = some_rings(lot, lot.randint(4, 7), lot.randint(6, 9))
            if len(rings(mol)) <= 9:
                tried += 1
                bases = least_bases(mol)
                several += len(bases) > 1
                rows = {row for basis in bases for row in basis}
                self.rows_are(mol, [list(row) for row in sorted(rows, key=lambda row: (len(row), row))])
        self.assertGreater(several, 15)

    def test_the_lengths_of_a_least_basis_are_among_theirs(self):
        lot = random.Random(114)
        for k in range(60):
            mol = some_rings(lot, lot.randint(3, 9), lot.randint(3, 12))
            lengths = [len(row) for row in rows_told(self, short, molecule_form(mol))]
            of_basis = row_of(self, sizes(molecule_form(mol)))
            self.assertEqual(set(lengths), set(of_basis))
            for length in of_basis:
                self.assertGreaterEqual(lengths.count(length), of_basis.count(length))


class OtherwiseTest(ShortTest):
    def test_orders_elements_hands_and_sides_do_not_matter(self):
        lot = random.Random(115)
        turns = 0
        for k in range(60):
            mol = turned_molecule(lot) if k % 3 == 0 else some_molecule(lot, lot.randint(3, 7), 8)
            turns += any(x.hand for x in mol.atoms) or any(x.side for x in mol.bonds)
            rows = rows_told(self, short, molecule_form(mol))
            self.shape_has(len(mol.atoms), [(x.a, x.b) for x in mol.bonds], rows)
            atoms = [atom(lot.randint(1, 118), lot.randint(0, 500), lot.randint(-4, 4), lot.randint(0, 7))
                     for x in mol.atoms]
            self.rows_are(Molecule(atoms, [bond(x.a, x.b, lot.randint(1, 3)) for x in mol.bonds]), rows)
        self.assertGreater(turns, 20)

    def test_redrawn(self):
        lot = random.Random(116)
        several = 0
        for k in range(40):
            mol = some_molecule(lot, lot.randint(3, 6), 8)
            drawn = redrawings(mol)
            several += len(drawn) > 1
            rows = rows_told(self, short, molecule_form(mol))
            self.rows_are(redrawn(mol, lot.choice(drawn)), rows)
        self.assertGreater(several, 5)

    def test_renumbered(self):
        lot = random.Random(117)
        for k in range(80):
            mol = some_molecule(lot, lot.randint(3, 7), 8) if k % 2 else some_rings(lot, lot.randint(5, 9), 12)
            row = list(range(len(mol.atoms)))
            lot.shuffle(row)
            carried = [ring_row([row[x] for x in atoms]) for atoms in rows_told(self, short, molecule_form(mol))]
            self.rows_are(renumbered(mol, row), sorted(carried, key=lambda atoms: (len(atoms), atoms)))


class RefusalTest(ShortTest):
    def test_a_faulty_molecule_is_told_before_a_k_that_is_too_large(self):
        for k in (0, 1, 2 ** 32 - 1):
            check_one_form_refusals(self, short, k)

    def test_a_side_in_a_ring_that_is_not_fixed(self):
        form = molecule([atom()] * 6, [bond(0, 1, 2, 1)] + SIX_RING[1:])
        for k in (0, 1, 2 ** 32 - 1):
            self.assertEqual(ask(self, short, k, form), [-5, 0, 6, 45])


if __name__ == "__main__":
    unittest.main()
