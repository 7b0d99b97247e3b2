import itertools
import random
import unittest

from moleculeparts.parts import count, cut, map_of, own, place
from tests.helper import Tried, ask, atom, bond, check_refusals, five_atoms, joined, mirrored, molecule, molecule_form
from tests.helper import pattern, pattern_form, redrawings, redrawn, renumbered, row_of, rows_told, said, samenesses
from tests.helper import some_molecule, some_part, some_pattern, turned_molecule

SIX_RING = [bond(0, 1, 2), bond(0, 5), bond(1, 2), bond(2, 3, 2), bond(3, 4), bond(4, 5, 2)]
BENZENE = molecule([atom(hydrogens=1)] * 6, SIX_RING)
PAIR = pattern([said()] * 2, [joined(0, 1)])
CHAIN = pattern([said()] * 3, [joined(0, 1), joined(1, 2)])


def first_maps(maps):
    """Of each set of images the first of the maps that have it, in order."""
    places = {frozenset(row) for row in maps}
    return sorted(min(list(row) for row in maps if frozenset(row) == images) for images in places)


class PlaceTest(unittest.TestCase):
    def places_are(self, pat, mol, places):
        self.assertEqual(rows_told(self, place, pat, mol), places)
        self.assertEqual(count(pat, mol)[2], len(places))


class RowTest(PlaceTest):
    def test_its_length_is_ahead_of_it(self):
        mol = molecule([atom(6), atom(7), atom(8)], [bond(0, 1), bond(1, 2)])
        chain = pattern([said((8,)), said((6,)), said((7,))], [joined(0, 2), joined(1, 2)])
        self.assertEqual(ask(self, place, 0, chain, mol), [0, 3, 2, 0, 1])
        self.assertEqual(ask(self, place, 1, chain, mol), [-2])

    def test_no_atoms(self):
        for mol in (molecule([]), molecule([atom()]), BENZENE):
            self.assertEqual(ask(self, place, 0, pattern([]), mol), [0, 0])
            self.places_are(pattern([]), mol, [[]])

    def test_none(self):
        self.places_are(pattern([said()]), molecule([]), [])
        self.places_are(pattern([said()] * 3), molecule([atom()] * 2), [])
        self.places_are(pattern([said((7,))]), BENZENE, [])

    def test_several_maps_have_one_place(self):
        square = molecule([atom()] * 4, [bond(0, 1), bond(0, 3), bond(1, 2), bond(2, 3)])
        chain = pattern([said()] * 4, [joined(0, 1), joined(1, 2), joined(2, 3)])
        self.assertEqual(count(chain, square), [0, 8, 1])
        self.places_are(chain, square, [[0, 1, 2, 3]])
        self.places_are(PAIR, molecule([atom()] * 2, [bond(0, 1)]), [[0, 1]])
        self.places_are(pattern([said()] * 5), molecule([atom()] * 5), [[0, 1, 2, 3, 4]])

    def test_a_place_is_told_by_its_first_map(self):
        # The atom in the midst is the pattern's last, and the molecule's first or last.
        fork = pattern([said()] * 3, [joined(0, 2), joined(1, 2)])
        self.places_are(fork, molecule([atom()] * 3, [bond(0, 1), bond(0, 2)]), [[1, 2, 0]])
        self.places_are(fork, molecule([atom()] * 3, [bond(0, 2), bond(1, 2)]), [[0, 1, 2]])
        self.places_are(CHAIN, molecule([atom()] * 3, [bond(0, 1), bond(0, 2)]), [[1, 0, 2]])

    def test_places_stand_in_the_order_of_their_first_maps(self):
        # By their sets the places would be 0 3, 1 2, 1 4.
        mol = molecule([atom(8), atom(7), atom(8), atom(7), atom(8)], [bond(0, 3), bond(1, 2), bond(1, 4)])
        self.places_are(pattern([said((7,)), said((8,))], [joined(0, 1)]), mol, [[1, 2], [1, 4], [3, 0]])
        self.places_are(pattern([said((8,)), said((7,))], [joined(0, 1)]), mol, [[0, 3], [2, 1], [4, 1]])

    def test_places_that_share_atoms(self):
        mol = molecule([atom()] * 4, [bond(0, 1), bond(0, 3), bond(1, 2)])
        self.places_are(PAIR, mol, [[0, 1], [0, 3], [1, 2]])
        self.places_are(PAIR, BENZENE, [[0, 1], [0, 5], [1, 2], [2, 3], [3, 4], [4, 5]])
        self.places_are(CHAIN, BENZENE, [[0, 1, 2], [0, 5, 4], [1, 0, 5], [1, 2, 3], [2, 3, 4], [3, 4, 5]])

    def test_hand(self):
        mol = molecule([atom(hand=1)] + [atom(9)] * 4, [bond(0, k) for k in (1, 2, 3, 4)])
        left = [[0, 1, 2, 3], [0, 1, 2, 4], [0, 1, 3, 4], [0, 2, 3, 4]]
        # If 2 or 4 is left out, it goes to the front over an odd number of others.
        kept = [[0, 1, 2, 4], [0, 1, 3, 2], [0, 1, 4, 3], [0, 2, 3, 4]]
        turned = [[0, 1, 2, 3], [0, 1, 3, 4], [0, 1, 4, 2], [0, 2, 4, 3]]
        for hand, places in ((0, left), (1, kept), (2, turned), (3, [])):
            pat = pattern([said(hand=hand)] + [said()] * 3, [joined(0, 1), joined(0, 2), joined(0, 3)])
            self.places_are(pat, mol, places)

    def test_side(self):
        mol = molecule([atom(9), atom(), atom(), atom(9), atom(9)],
                       [bond(0, 1), bond(1, 2, 2, 1), bond(2, 3), bond(2, 4)])
        for side, places in ((0, [[0, 1, 2, 3], [0, 1, 2, 4]]), (1, [[0, 1, 2, 3]]), (2, [[0, 1, 2, 4]]), (3, [])):
            pat = pattern([said((9,)), said(), said(), said((9,))], [joined(0, 1), joined(1, 2, side=side), joined(2, 3)])
            self.places_are(pat, mol, places)


class HowManyTest(PlaceTest):
    def test_around_the_number_of_places(self):
        pat = pattern([said()] * 5)
        mol = molecule([atom()] * 9)
        rows = list(itertools.combinations(range(9), 5))
        self.assertEqual(count(pat, mol)[2], 126)
        for k in (0, 1, 77, 124, 125):
            self.assertEqual(ask(self, place, k, pat, mol), [0, 5] + list(rows[k]))
        for k in (126, 127, 15119, 2 ** 32 - 1):
            self.assertEqual(ask(self, place, k, pat, mol), [-2])

    def test_far_above(self):
        for k in (6, 7, 11, 12, 255, 256, 65536, 2 ** 31 - 1, 2 ** 31, 2 ** 32 - 2, 2 ** 32 - 1):
            self.assertEqual(ask(self, place, k, PAIR, BENZENE), [-2])
            self.assertEqual(ask(self, place, k, pattern([]), molecule([])), [-2])


class AgainstTrialTest(PlaceTest):
    """Every row of images tried, on molecules and patterns by lot."""

    def test_by_lot(self):
        lot = random.Random(71)
        several = 0
        fewer = 0
        for k in range(60):
            mol = turned_molecule(lot) if k % 2 else some_molecule(lot, lot.randint(1, 6), 7)
            tried = Tried(mol)
            for j in range(5):
                pat = some_pattern(lot, mol, 4)
                maps = tried.maps(pat)
                places = first_maps(maps)
                self.places_are(pattern_form(pat), molecule_form(mol), places)
                several += len(places) > 1
                fewer += len(places) < len(maps)
        self.assertGreater(several, 30)
        self.assertGreater(fewer, 5)

    def test_each_is_the_first_of_the_maps_that_are_told(self):
        lot = random.Random(72)
        for k in range(40):
            mol = molecule_form(some_molecule(lot, lot.randint(3, 6), 7, 1, (6,)))
            pat = pattern([said()] * 3, lot.choice(([joined(0, 1)], [joined(0, 1), joined(0, 2)], [joined(1, 2)])))
            self.places_are(pat, mol, first_maps(rows_told(self, map_of, pat, mol)))

    def test_redrawn(self):
        lot = random.Random(73)
        several = 0
        for k in range(60):
            mol = some_molecule(lot, lot.randint(3, 6), 8)
            rows = redrawings(mol)
            several += len(rows) > 1
            pat = pattern_form(some_pattern(lot, mol, 3))
            places = rows_told(self, place, pat, molecule_form(mol))
            self.places_are(pat, molecule_form(redrawn(mol, lot.choice(rows))), places)
        self.assertGreater(several, 10)

    def test_renumbered(self):
        lot = random.Random(74)
        for k in range(60):
            mol = turned_molecule(lot) if k % 2 else some_molecule(lot, lot.randint(2, 8), 8)
            row = list(range(len(mol.atoms)))
            lot.shuffle(row)
            pat = pattern_form(some_pattern(lot, mol, 3))
            maps = rows_told(self, map_of, pat, molecule_form(mol))
            carried = first_maps([[row[x] for x in images] for images in maps])
            self.places_are(pat, molecule_form(renumbered(mol, row)), carried)


class OwnAndCutTest(PlaceTest):
    def own_in(self, one, other):
        rows = samenesses(one, other)
        self.places_are(row_of(self, own(molecule_form(one))), molecule_form(other), first_maps(rows))
        return len(rows) > 0

    def test_a_molecules_own_pattern_has_one_place_if_they_are_the_same(self):
        lot = random.Random(75)
        found = [0, 0]
        for k in range(60):
            mol = five_atoms(lot)
            self.assertTrue(self.own_in(mol, mol))
            row = list(range(len(mol.atoms)))
            lot.shuffle(row)
            self.assertTrue(self.own_in(mol, renumbered(mol, row)))
            if any(x.hand for x in mol.atoms):
                found[self.own_in(mol, renumbered(mirrored(mol), row))] += 1
        self.assertGreater(min(found), 2)

    def test_what_is_cut_out_stands_where_it_was_cut(self):
        lot = random.Random(76)
        for k in range(40):
            mol = some_molecule(lot, lot.randint(3, 9), 9)
            atoms = sorted(some_part(lot, mol, 4))
            form = row_of(self, cut(molecule_form(mol), atoms))
            # Rising, the atoms that were cut out are the first map of their place.
            self.assertIn(atoms, rows_told(self, place, form, molecule_form(mol)))


class RefusalTest(PlaceTest):
    def test_faulty_forms_are_told_before_a_k_that_is_too_large(self):
        for k in (0, 1, 2 ** 32 - 1):
            check_refusals(self, place, k)


if __name__ == "__main__":
    unittest.main()
