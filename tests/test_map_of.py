import itertools
import random
import unittest

from moleculeparts.parts import count, cut, map_of, own
from tests.helper import Pattern, Tried, ask, atom, bond, check_refusals, five_atoms, joined, mirrored, molecule
from tests.helper import molecule_form, pattern, pattern_form, redrawings, redrawn, renumbered, row_of, rows_told, said
from tests.helper import samenesses, some_molecule, some_part, some_pattern, turned_molecule

SIX_RING = [bond(0, 1, 2), bond(0, 5), bond(1, 2), bond(2, 3, 2), bond(3, 4), bond(4, 5, 2)]
BENZENE = molecule([atom(hydrogens=1)] * 6, SIX_RING)
PAIR = pattern([said()] * 2, [joined(0, 1)])


class MapOfTest(unittest.TestCase):
    def maps_are(self, pat, mol, maps):
        self.assertEqual(rows_told(self, map_of, pat, mol), maps)
        self.assertEqual(count(pat, mol)[:2], [0, len(maps)])


class RowTest(MapOfTest):
    def test_its_length_is_ahead_of_it(self):
        mol = molecule([atom(6), atom(7), atom(8)], [bond(0, 1), bond(1, 2)])
        chain = pattern([said((8,)), said((6,)), said((7,))], [joined(0, 2), joined(1, 2)])
        self.assertEqual(ask(self, map_of, 0, chain, mol), [0, 3, 2, 0, 1])
        self.assertEqual(ask(self, map_of, 1, chain, mol), [-2])

    def test_no_atoms(self):
        for mol in (molecule([]), molecule([atom()]), BENZENE):
            self.assertEqual(ask(self, map_of, 0, pattern([]), mol), [0, 0])
            self.maps_are(pattern([]), mol, [[]])

    def test_none(self):
        self.maps_are(pattern([said()]), molecule([]), [])
        self.maps_are(pattern([said()] * 3), molecule([atom()] * 2), [])
        self.maps_are(pattern([said((7,))]), BENZENE, [])

    def test_atoms_alone(self):
        self.maps_are(pattern([said()]), molecule([atom()] * 3), [[0], [1], [2]])
        self.maps_are(pattern([said()] * 2), molecule([atom()] * 3), [[0, 1], [0, 2], [1, 0], [1, 2], [2, 0], [2, 1]])

    def test_in_the_order_of_their_rows(self):
        mol = molecule([atom(6), atom(7), atom(6), atom(7)], [bond(0, 1), bond(0, 3), bond(1, 2)])
        self.maps_are(PAIR, mol, [[0, 1], [0, 3], [1, 0], [1, 2], [2, 1], [3, 0]])
        self.maps_are(pattern([said((7,)), said((6,))], [joined(0, 1)]), mol, [[1, 0], [1, 2], [3, 0]])
        fork = pattern([said()] * 3, [joined(0, 2), joined(1, 2)])
        self.maps_are(fork, mol, [[0, 2, 1], [1, 3, 0], [2, 0, 1], [3, 1, 0]])

    def test_a_bond_of_the_ring(self):
        rows = [[0, 1], [0, 5], [1, 0], [1, 2], [2, 1], [2, 3], [3, 2], [3, 4], [4, 3], [4, 5], [5, 0], [5, 4]]
        for how, orders, maps in ((0, 1, rows), (0, 2, rows), (1, 3, rows), (1, 1, []), (1, 2, []), (0, 4, [])):
            self.maps_are(pattern([said()] * 2, [joined(0, 1, orders, how)]), BENZENE, maps)

    def test_hand(self):
        mol = molecule([atom(hydrogens=1, hand=1)] + [atom(9)] * 3, [bond(0, 1), bond(0, 2), bond(0, 3)])
        kept = [[0, 1, 2, 3], [0, 2, 3, 1], [0, 3, 1, 2]]
        turned = [[0, 1, 3, 2], [0, 2, 1, 3], [0, 3, 2, 1]]
        for hand, maps in ((0, sorted(kept + turned)), (1, kept), (2, turned), (3, [])):
            pat = pattern([said(hand=hand)] + [said()] * 3, [joined(0, 1), joined(0, 2), joined(0, 3)])
            self.maps_are(pat, mol, maps)

    def test_side(self):
        mol = molecule([atom(9), atom(), atom(), atom(9), atom(9)],
                       [bond(0, 1), bond(1, 2, 2, 1), bond(2, 3), bond(2, 4)])
        for side, maps in ((0, [[0, 1, 2, 3], [0, 1, 2, 4], [3, 2, 1, 0], [4, 2, 1, 0]]),
                           (1, [[0, 1, 2, 3], [3, 2, 1, 0]]), (2, [[0, 1, 2, 4], [4, 2, 1, 0]]), (3, [])):
            pat = pattern([said((9,)), said(), said(), said((9,))], [joined(0, 1), joined(1, 2, side=side), joined(2, 3)])
            self.maps_are(pat, mol, maps)


class HowManyTest(MapOfTest):
    def test_around_the_number_of_maps(self):
        pat = pattern([said()] * 5)
        mol = molecule([atom()] * 9)
        self.assertEqual(count(pat, mol)[1], 15120)
        rows = list(itertools.permutations(range(9), 5))
        for k in (0, 1, 255, 256, 7777, 15118, 15119):
            self.assertEqual(ask(self, map_of, k, pat, mol), [0, 5] + list(rows[k]))
        for k in (15120, 15121, 2 ** 32 - 1):
            self.assertEqual(ask(self, map_of, k, pat, mol), [-2])

    def test_far_above(self):
        for k in (12, 13, 255, 256, 65536, 2 ** 31 - 1, 2 ** 31, 2 ** 32 - 2, 2 ** 32 - 1):
            self.assertEqual(ask(self, map_of, k, PAIR, BENZENE), [-2])
            self.assertEqual(ask(self, map_of, k, pattern([]), molecule([])), [-2])


class AgainstTrialTest(MapOfTest):
    """Every row of images tried, on molecules and patterns by lot."""

    def test_by_lot(self):
        lot = random.Random(61)
        several = 0
        for k in range(60):
            mol = turned_molecule(lot) if k % 2 else some_molecule(lot, lot.randint(1, 6), 7)
            tried = Tried(mol)
            for j in range(5):
                pat = some_pattern(lot, mol, 4)
                maps = tried.maps(pat)
                self.maps_are(pattern_form(pat), molecule_form(mol), [list(row) for row in maps])
                several += len(maps) > 1
        self.assertGreater(several, 30)

    def test_hands_and_sides(self):
        lot = random.Random(62)
        several = 0
        for k in range(60):
            mol = turned_molecule(lot)
            tried = Tried(mol)
            for j in range(4):
                pat = some_pattern(lot, mol, 5)
                pat = Pattern([said(hand=x.hand) for x in pat.atoms], [joined(x.a, x.b, side=x.side) for x in pat.bonds])
                maps = tried.maps(pat)
                if len(maps) < 30:
                    self.maps_are(pattern_form(pat), molecule_form(mol), [list(row) for row in maps])
                    several += len(maps) > 1
        self.assertGreater(several, 40)

    def test_redrawn(self):
        lot = random.Random(63)
        several = 0
        for k in range(60):
            mol = some_molecule(lot, lot.randint(3, 6), 8)
            rows = redrawings(mol)
            several += len(rows) > 1
            pat = pattern_form(some_pattern(lot, mol, 3))
            maps = rows_told(self, map_of, pat, molecule_form(mol))
            self.maps_are(pat, molecule_form(redrawn(mol, lot.choice(rows))), maps)
        self.assertGreater(several, 10)

    def test_renumbered(self):
        lot = random.Random(64)
        for k in range(60):
            mol = turned_molecule(lot) if k % 2 else some_molecule(lot, lot.randint(2, 8), 8)
            row = list(range(len(mol.atoms)))
            lot.shuffle(row)
            pat = pattern_form(some_pattern(lot, mol, 3))
            maps = rows_told(self, map_of, pat, molecule_form(mol))
            carried = sorted([row[x] for x in images] for images in maps)
            self.maps_are(pat, molecule_form(renumbered(mol, row)), carried)


class OwnAndCutTest(MapOfTest):
    def own_in(self, one, other):
        maps = [list(row) for row in samenesses(one, other)]
        self.maps_are(row_of(self, own(molecule_form(one))), molecule_form(other), maps)
        return len(maps)

    def test_a_molecules_own_pattern_shows_which_are_the_same(self):
        lot = random.Random(65)
        found = [0, 0]
        for k in range(60):
            mol = five_atoms(lot)
            self.assertGreater(self.own_in(mol, mol), 0)
            row = list(range(len(mol.atoms)))
            lot.shuffle(row)
            self.assertGreater(self.own_in(mol, renumbered(mol, row)), 0)
            if any(x.hand for x in mol.atoms):
                found[self.own_in(mol, renumbered(mirrored(mol), row)) > 0] += 1
        self.assertGreater(min(found), 2)

    def test_what_is_cut_out_stands_where_it_was_cut(self):
        lot = random.Random(66)
        for k in range(40):
            mol = some_molecule(lot, lot.randint(3, 9), 9)
            atoms = sorted(some_part(lot, mol, 4))
            form = row_of(self, cut(molecule_form(mol), atoms))
            self.assertIn(atoms, rows_told(self, map_of, form, molecule_form(mol)))


class RefusalTest(MapOfTest):
    def test_faulty_forms_are_told_before_a_k_that_is_too_large(self):
        for k in (0, 1, 2 ** 32 - 1):
            check_refusals(self, map_of, k)


if __name__ == "__main__":
    unittest.main()
