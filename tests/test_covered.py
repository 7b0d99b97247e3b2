import random
import unittest

from moleculeparts.parts import count, covered, cut, own, place
from tests.helper import Tried, ask, atom, bond, check_refusals, five_atoms, joined, molecule, molecule_form, pattern
from tests.helper import pattern_form, redrawings, redrawn, renumbered, row_of, rows_told, said, some_molecule, some_part
from tests.helper import some_pattern, turned_molecule

SIX_RING = [bond(0, 1, 2), bond(0, 5), bond(1, 2), bond(2, 3, 2), bond(3, 4), bond(4, 5, 2)]
BENZENE = molecule([atom(hydrogens=1)] * 6, SIX_RING)
# A ring of three, a bond to a chain, and an atom by itself.
TAILED = [bond(0, 1), bond(0, 2), bond(1, 2), bond(2, 3, 2), bond(3, 5)]


class CoveredTest(unittest.TestCase):
    def marks_are(self, pat, mol, marks):
        self.assertEqual(ask(self, covered, pat, mol), [0, len(marks)] + marks)


class MarksTest(CoveredTest):
    def test_one_number_for_each_atom(self):
        self.assertEqual(ask(self, covered, pattern([said()]), molecule([atom()])), [0, 1, 1])
        for n in range(10):
            self.marks_are(pattern([said()]), molecule([atom()] * n), [1] * n)
            self.marks_are(pattern([said((7,))]), molecule([atom()] * n), [0] * n)

    def test_no_atoms_in_the_pattern(self):
        self.assertEqual(count(pattern([]), BENZENE), [0, 1, 1])
        self.marks_are(pattern([]), BENZENE, [0] * 6)
        self.marks_are(pattern([]), molecule([atom()]), [0])

    def test_no_atoms_in_the_molecule(self):
        for pat in (pattern([]), pattern([said()]), pattern([said()] * 2, [joined(0, 1)])):
            self.assertEqual(ask(self, covered, pat, molecule([])), [0, 0])

    def test_atoms_that_some_place_has(self):
        mol = molecule([atom(k) for k in (6, 7, 6, 8, 6, 6)], TAILED)
        self.marks_are(pattern([said((6,))]), mol, [1, 0, 1, 0, 1, 1])
        self.marks_are(pattern([said((6,)), said((8,))], [joined(0, 1)]), mol, [0, 0, 1, 1, 0, 1])
        self.marks_are(pattern([said((6,)), said((6,))], [joined(0, 1)]), mol, [1, 0, 1, 0, 0, 0])
        self.marks_are(pattern([said((7,)), said((8,))]), mol, [0, 1, 0, 1, 0, 0])
        self.marks_are(pattern([said(ring=1)]), mol, [1, 1, 1, 0, 0, 0])
        self.marks_are(pattern([said(neighbours=(0, 1))]), mol, [0, 0, 0, 0, 1, 1])
        self.marks_are(pattern([said()] * 2, [joined(0, 1, ring=2)]), mol, [0, 0, 1, 1, 0, 1])
        self.marks_are(pattern([said()] * 2, [joined(0, 1, 2, 1)]), mol, [0, 0, 1, 1, 0, 0])

    def test_places_that_share_atoms(self):
        chain = molecule([atom(9), atom(), atom(), atom(9)], [bond(0, 1), bond(1, 2), bond(2, 3)])
        self.marks_are(pattern([said((6,))] * 2, [joined(0, 1)]), chain, [0, 1, 1, 0])
        self.marks_are(pattern([said()] * 2, [joined(0, 1)]), chain, [1, 1, 1, 1])
        self.marks_are(pattern([said((9,)), said((6,))], [joined(0, 1)]), chain, [1, 1, 1, 1])

    def test_it_stands_nowhere(self):
        self.marks_are(pattern([said((7,))]), BENZENE, [0] * 6)
        self.marks_are(pattern([said()] * 3, [joined(0, 1), joined(0, 2), joined(1, 2)]), BENZENE, [0] * 6)
        # Each atom by itself would do, but never both.
        self.marks_are(pattern([said((6,)), said((7,))]), molecule([atom()] * 2), [0, 0])
        self.marks_are(pattern([said()] * 3), molecule([atom()] * 2), [0, 0])

    def test_not_fixed(self):
        for orders, how, mark in ((1, 0, 1), (2, 0, 1), (4, 0, 0), (1, 1, 0), (2, 1, 0), (3, 1, 1)):
            self.marks_are(pattern([said()] * 2, [joined(0, 1, orders, how)]), BENZENE, [mark] * 6)

    def test_hand(self):
        mol = molecule([atom(hydrogens=1, hand=1), atom(9), atom(17), atom(35), atom(9)],
                       [bond(0, 1), bond(0, 2), bond(0, 3)])
        for hand, marks in ((0, [1, 1, 1, 1, 0]), (1, [1, 1, 1, 1, 0]), (2, [0] * 5), (3, [0] * 5)):
            pat = pattern([said(hand=hand), said((9,)), said((17,)), said((35,))],
                          [joined(0, 1), joined(0, 2), joined(0, 3)])
            self.marks_are(pat, mol, marks)

    def test_side(self):
        mol = molecule([atom(9), atom(), atom(), atom(17), atom(17)],
                       [bond(0, 1), bond(1, 2, 2, 1), bond(2, 3), bond(2, 4)])
        for side, marks in ((0, [1, 1, 1, 1, 1]), (1, [1, 1, 1, 1, 0]), (2, [1, 1, 1, 0, 1]), (3, [0] * 5)):
            pat = pattern([said((9,)), said(), said(), said((17,))],
                          [joined(0, 1), joined(1, 2, side=side), joined(2, 3)])
            self.marks_are(pat, mol, marks)

    def test_the_most_that_is_handed_in(self):
        self.marks_are(pattern([said()] * 5), molecule([atom()] * 9), [1] * 9)


class AgainstTrialTest(CoveredTest):
    """Every row of images tried, on molecules and patterns by lot."""

    def test_by_lot(self):
        lot = random.Random(81)
        mixed = 0
        for k in range(60):
            mol = turned_molecule(lot) if k % 2 else some_molecule(lot, lot.randint(1, 6), 7)
            tried = Tried(mol)
            for j in range(6):
                pat = some_pattern(lot, mol, 4)
                images = {image for row in tried.maps(pat) for image in row}
                marks = [1 if image in images else 0 for image in range(len(mol.atoms))]
                self.marks_are(pattern_form(pat), molecule_form(mol), marks)
                mixed += 0 < sum(marks) < len(marks)
        self.assertGreater(mixed, 50)

    def test_what_the_places_have(self):
        lot = random.Random(82)
        for k in range(60):
            mol = some_molecule(lot, lot.randint(1, 9), 9)
            pat = pattern_form(some_pattern(lot, mol, 3))
            images = [image for row in rows_told(self, place, pat, molecule_form(mol)) for image in row]
            marks = [1 if image in images else 0 for image in range(len(mol.atoms))]
            self.marks_are(pat, molecule_form(mol), marks)

    def test_redrawn(self):
        lot = random.Random(83)
        for k in range(60):
            mol = some_molecule(lot, lot.randint(3, 6), 8)
            pat = pattern_form(some_pattern(lot, mol))
            marks = row_of(self, covered(pat, molecule_form(mol)))
            self.marks_are(pat, molecule_form(redrawn(mol, lot.choice(redrawings(mol)))), marks)

    def test_renumbered(self):
        lot = random.Random(84)
        for k in range(60):
            mol = turned_molecule(lot) if k % 2 else some_molecule(lot, lot.randint(2, 8), 8)
            row = list(range(len(mol.atoms)))
            lot.shuffle(row)
            pat = pattern_form(some_pattern(lot, mol))
            marks = row_of(self, covered(pat, molecule_form(mol)))
            carried = [marks[row.index(x)] for x in range(len(row))]
            self.marks_are(pat, molecule_form(renumbered(mol, row)), carried)


class OwnAndCutTest(CoveredTest):
    def test_its_own_pattern_covers_a_molecule(self):
        lot = random.Random(85)
        for k in range(60):
            mol = five_atoms(lot)
            form = molecule_form(mol)
            self.marks_are(row_of(self, own(form)), form, [1] * len(mol.atoms))

    def test_what_is_cut_out_covers_where_it_was_cut(self):
        lot = random.Random(86)
        for k in range(40):
            mol = some_molecule(lot, lot.randint(3, 9), 9)
            atoms = sorted(some_part(lot, mol, 5))
            form = row_of(self, cut(molecule_form(mol), atoms))
            marks = row_of(self, ask(self, covered, form, molecule_form(mol)))
            self.assertEqual([marks[x] for x in atoms], [1] * len(atoms))


class RefusalTest(CoveredTest):
    def test_faulty_forms(self):
        check_refusals(self, covered)


if __name__ == "__main__":
    unittest.main()
