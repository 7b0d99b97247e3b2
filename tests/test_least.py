import itertools
import random
import unittest

from moleculeparts.parts import covered, least, map_of, short
from tests.helper import Molecule, ask, atom, bond, check_one_form_refusals, joined, least_by_trial, molecule
from tests.helper import molecule_form, pattern, redrawings, redrawn, renumbered, rings, round_pairs, row_of, rows_told
from tests.helper import said, shape, some_molecule, some_rings, turned_molecule

SIX_RING = [bond(0, 1, 2), bond(0, 5), bond(1, 2), bond(2, 3, 2), bond(3, 4), bond(4, 5, 2)]


class LeastTest(unittest.TestCase):
    def lengths_are(self, mol, of_atoms, of_bonds):
        answer = [0, len(of_atoms) + len(of_bonds)] + of_atoms + of_bonds
        self.assertEqual(ask(self, least, molecule_form(mol)), answer)

    def shape_has(self, n, pairs, of_atoms, bonds):
        """The bonds are told with the pairs: pair to length."""
        mol = shape(n, pairs)
        self.assertEqual(sorted(bonds), [(x.a, x.b) for x in mol.bonds])
        self.lengths_are(mol, of_atoms, [bonds[(x.a, x.b)] for x in mol.bonds])


class RowTest(LeastTest):
    def test_atoms_by_number_then_bonds_in_the_forms_order(self):
        form = molecule_form(shape(6, round_pairs(1, 3, 4) + [(0, 3), (4, 5)]))
        # The bonds are 0 3, 1 3, 1 4, 3 4, 4 5.
        self.assertEqual(ask(self, least, form), [0, 11, 0, 3, 0, 3, 3, 0, 0, 3, 3, 3, 0])
        self.assertEqual(ask(self, least, molecule([atom()] * 6, SIX_RING)), [0, 12] + [6] * 12)

    def test_no_atoms(self):
        self.assertEqual(ask(self, least, molecule([])), [0, 0])

    def test_no_bonds(self):
        for n in range(10):
            self.lengths_are(shape(n, []), [0] * n, [])

    def test_no_ring(self):
        for n in range(1, 10):
            self.lengths_are(shape(n, [(k, k + 1) for k in range(n - 1)]), [0] * n, [0] * (n - 1))
            self.lengths_are(shape(n, [(0, k) for k in range(1, n)]), [0] * n, [0] * (n - 1))
        for order in (1, 2, 3):
            self.lengths_are(Molecule([atom()] * 2, [bond(0, 1, order)]), [0, 0], [0])

    def test_one_ring_of_each_length(self):
        for n in range(3, 10):
            self.lengths_are(shape(n, round_pairs(*range(n))), [n] * n, [n] * n)
            tailed = shape(9, round_pairs(*range(n)) + [(k, k + 1) for k in range(n - 1, 8)])
            in_ring = [n if x.b < n else 0 for x in tailed.bonds]
            self.lengths_are(tailed, [n] * n + [0] * (9 - n), in_ring)

    def test_several_pieces(self):
        mol = shape(9, round_pairs(0, 2, 4) + round_pairs(1, 3, 5, 7) + [(6, 8)])
        # The bonds are 0 2, 0 4, 1 3, 1 7, 2 4, 3 5, 5 7, 6 8.
        self.lengths_are(mol, [3, 4, 3, 4, 3, 4, 0, 4, 0], [3, 3, 4, 4, 3, 4, 4, 0])


class WhichTest(LeastTest):
    def test_in_several_the_least_of_them(self):
        self.shape_has(6, round_pairs(0, 1, 2, 3, 4, 5) + [(0, 2)], [3, 3, 3, 5, 5, 5],
                       {(0, 1): 3, (1, 2): 3, (0, 2): 3, (2, 3): 5, (3, 4): 5, (4, 5): 5, (0, 5): 5})
        self.shape_has(7, round_pairs(0, 1, 2) + round_pairs(2, 3, 4, 5, 6), [3, 3, 3, 5, 5, 5, 5],
                       {(0, 1): 3, (1, 2): 3, (0, 2): 3, (2, 3): 5, (3, 4): 5, (4, 5): 5, (5, 6): 5, (2, 6): 5})
        self.lengths_are(shape(4, itertools.combinations(range(4), 2)), [3] * 4, [3] * 6)

    def test_a_bond_between_two_rings(self):
        self.shape_has(7, round_pairs(0, 1, 2) + [(2, 3)] + round_pairs(3, 4, 5, 6), [3, 3, 3, 4, 4, 4, 4],
                       {(0, 1): 3, (1, 2): 3, (0, 2): 3, (2, 3): 0, (3, 4): 4, (4, 5): 4, (5, 6): 4, (3, 6): 4})

    def test_an_atom_between_two_rings(self):
        self.shape_has(7, round_pairs(0, 1, 2) + [(2, 3), (3, 4)] + round_pairs(4, 5, 6), [3, 3, 3, 0, 3, 3, 3],
                       {(0, 1): 3, (1, 2): 3, (0, 2): 3, (2, 3): 0, (3, 4): 0, (4, 5): 3, (5, 6): 3, (4, 6): 3})

    def test_an_atom_whose_least_ring_does_not_have_all_its_bonds(self):
        # 0 is in a ring of three with 1 and 2; its bond to 3 is in rings of five alone, that to 6 in none.
        self.shape_has(7, round_pairs(0, 1, 2) + [(0, 3), (3, 4), (4, 5), (5, 2), (0, 6)], [3, 3, 3, 5, 5, 5, 0],
                       {(0, 1): 3, (1, 2): 3, (0, 2): 3, (0, 3): 5, (3, 4): 5, (4, 5): 5, (2, 5): 5, (0, 6): 0})

    def test_a_least_ring_goes_round_a_bond_by_others(self):
        # Ways of one, two and four bonds between 0 and 1: the atoms of the longest are in a ring with the bond 0 1.
        pairs = [(0, 1), (0, 2), (2, 1), (0, 3), (3, 4), (4, 5), (5, 1)]
        self.shape_has(6, pairs, [3, 3, 3, 5, 5, 5],
                       {(0, 1): 3, (0, 2): 3, (1, 2): 3, (0, 3): 5, (3, 4): 5, (4, 5): 5, (1, 5): 5})
        # Without it they go round by 2.
        self.shape_has(6, pairs[1:], [6] * 6, {(0, 2): 6, (1, 2): 6, (0, 3): 6, (3, 4): 6, (4, 5): 6, (1, 5): 6})

    def test_a_bond_whose_least_ring_is_longer_than_those_of_its_ends(self):
        # Three rings of three in a ring; the bonds between them are in a ring of six alone.
        threes = round_pairs(0, 1, 2) + round_pairs(3, 4, 5) + round_pairs(6, 7, 8)
        bonds = {tuple(sorted(pair)): 3 for pair in threes}
        bonds.update({(1, 3): 6, (4, 6): 6, (0, 7): 6})
        self.shape_has(9, bonds, [3] * 9, bonds)
        prism = round_pairs(0, 1, 2) + round_pairs(3, 4, 5) + [(0, 3), (1, 4), (2, 5)]
        self.shape_has(6, prism, [3] * 6, {tuple(sorted(x)): 4 if abs(x[0] - x[1]) == 3 else 3 for x in prism})

    def test_cages(self):
        cube = round_pairs(0, 1, 2, 3) + round_pairs(4, 5, 6, 7) + [(0, 4), (1, 5), (2, 6), (3, 7)]
        self.lengths_are(shape(8, cube), [4] * 8, [4] * 12)
        self.lengths_are(shape(7, itertools.product(range(3), range(3, 7))), [4] * 7, [4] * 12)
        self.lengths_are(shape(8, round_pairs(*range(6)) + [(0, 6), (6, 7), (7, 3)]), [6] * 8, [6] * 9)

    def test_the_number_of_an_atom_does_not_matter(self):
        # In each of these the way round is found whichever end of a bond has the lesser number.
        for row in itertools.permutations(range(5)):
            mol = renumbered(shape(5, round_pairs(0, 1, 2, 3) + [(0, 2), (3, 4)]), row)
            of_atoms = [0] * 5
            for k, length in enumerate((3, 3, 3, 3, 0)):
                of_atoms[row[k]] = length
            of_bonds = [0 if row[4] in (x.a, x.b) else 3 for x in mol.bonds]
            self.lengths_are(mol, of_atoms, of_bonds)


class AgainstTrialTest(LeastTest):
    def check(self, mol):
        lengths = least_by_trial(mol)
        self.assertEqual(ask(self, least, molecule_form(mol)), [0, len(lengths)] + lengths)
        return lengths

    def test_all_rings_by_lot(self):
        lot = random.Random(121)
        mixed = 0
        longer = 0
        for k in range(200):
            mol = some_rings(lot, lot.randint(5, 7), lot.randint(5, 9)) if k % 2 else some_rings(lot, k % 7, k % 11)
            lengths = self.check(mol)
            mixed += len(set(lengths) - {0}) > 1
            of_bonds = lengths[len(mol.atoms):]
            longer += any(length > min(lengths[x.a], lengths[x.b]) for x, length in zip(mol.bonds, of_bonds))
        self.assertGreater(mixed, 20)
        self.assertGreater(longer, 5)

    def test_the_most_that_is_handed_in(self):
        lot = random.Random(122)
        for k in range(20):
            self.check(some_rings(lot, lot.randint(8, 9), lot.randint(8, 12)))

    def test_the_least_ring_is_short(self):
        lot = random.Random(123)
        for k in range(60):
            mol = some_rings(lot, lot.randint(3, 9), lot.randint(3, 12))
            lengths = row_of(self, ask(self, least, molecule_form(mol)))
            rows = rows_told(self, short, molecule_form(mol))
            for atom_number in range(len(mol.atoms)):
                through = min([len(row) for row in rows if atom_number in row], default=0)
                self.assertEqual(lengths[atom_number], through)


class InARingTest(LeastTest):
    """It's 0 just where a pattern's ring 1 doesn't fit."""

    def check(self, mol):
        form = molecule_form(mol)
        lengths = row_of(self, ask(self, least, form))
        n = len(mol.atoms)
        marks = [1 if length else 0 for length in lengths[:n]]
        self.assertEqual(row_of(self, covered(pattern([said(ring=1)]), form)), marks)
        self.assertEqual(row_of(self, covered(pattern([said(ring=2)]), form)), [1 - mark for mark in marks])
        pairs = [[x.a, x.b] for x, length in zip(mol.bonds, lengths[n:]) if length]
        found = rows_told(self, map_of, pattern([said()] * 2, [joined(0, 1, ring=1)]), form)
        self.assertEqual([row for row in found if row[0] < row[1]], pairs)
        return len(pairs), len(mol.bonds) - len(pairs)

    def test_by_lot(self):
        lot = random.Random(124)
        both = 0
        for k in range(80):
            both += min(self.check(some_rings(lot, lot.randint(1, 9), lot.randint(0, 12)))) > 0
        self.assertGreater(both, 15)

    def test_two_rings_with_a_bond_between(self):
        self.assertEqual(self.check(shape(7, round_pairs(0, 1, 2) + [(2, 3)] + round_pairs(3, 4, 5, 6))), (7, 1))


class OtherwiseTest(LeastTest):
    def test_orders_elements_hands_and_sides_do_not_matter(self):
        lot = random.Random(125)
        turns = 0
        for k in range(60):
            mol = turned_molecule(lot) if k % 3 == 0 else some_molecule(lot, lot.randint(3, 7), 8)
            turns += any(x.hand for x in mol.atoms) or any(x.side for x in mol.bonds)
            answer = ask(self, least, molecule_form(mol))
            self.assertEqual(ask(self, least, molecule_form(shape(len(mol.atoms), [x[:2] for x in mol.bonds]))), answer)
            atoms = [atom(lot.randint(1, 118), lot.randint(0, 500), lot.randint(-4, 4), lot.randint(0, 7))
                     for x in mol.atoms]
            other = Molecule(atoms, [bond(x.a, x.b, lot.randint(1, 3)) for x in mol.bonds])
            self.assertEqual(ask(self, least, molecule_form(other)), answer)
        self.assertGreater(turns, 20)

    def test_redrawn(self):
        lot = random.Random(126)
        several = 0
        for k in range(40):
            mol = some_molecule(lot, lot.randint(3, 6), 8)
            rows = redrawings(mol)
            several += len(rows) > 1
            other = redrawn(mol, lot.choice(rows))
            self.assertEqual(ask(self, least, molecule_form(other)), least(molecule_form(mol)))
        self.assertGreater(several, 5)

    def test_renumbered(self):
        lot = random.Random(127)
        ringed = 0
        for k in range(80):
            mol = some_molecule(lot, lot.randint(3, 7), 8) if k % 2 else some_rings(lot, lot.randint(5, 9), 10)
            row = list(range(len(mol.atoms)))
            lot.shuffle(row)
            ringed += len(rings(mol)) > 0
            lengths = row_of(self, least(molecule_form(mol)))
            other = renumbered(mol, row)
            of_atoms = [lengths[row.index(k)] for k in range(len(row))]
            carried = {frozenset((row[x.a], row[x.b])): length for x, length in zip(mol.bonds, lengths[len(row):])}
            self.lengths_are(other, of_atoms, [carried[frozenset((x.a, x.b))] for x in other.bonds])
        self.assertGreater(ringed, 40)


class RefusalTest(LeastTest):
    def test_faulty_molecule(self):
        check_one_form_refusals(self, least)

    def test_a_side_in_a_ring_that_is_not_fixed(self):
        form = molecule([atom()] * 6, [bond(0, 1, 2, 1)] + SIX_RING[1:])
        self.assertEqual(ask(self, least, form), [-5, 0, 6, 45])


if __name__ == "__main__":
    unittest.main()
