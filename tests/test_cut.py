import itertools
import random
import unittest

from moleculeparts.maps import maps_of
from moleculeparts.molecules import read_molecule
from moleculeparts.parts import count, cut, judge, own
from moleculeparts.patterns import read_pattern
from tests.helper import ask, atom, bond, joined, molecule, molecule_form, orders_drawn, pattern, redrawings
from tests.helper import redrawn, row_of, said, some_molecule

CHAIN = molecule([atom(6, 13, 1, 3), atom(7), atom(8, 0, -1), atom(9)], [bond(0, 1, 2), bond(1, 2, 3), bond(2, 3)])
SIX_RING = [bond(0, 1, 2), bond(0, 5), bond(1, 2), bond(2, 3, 2), bond(3, 4), bond(4, 5, 2)]
BENZENE = molecule([atom(hydrogens=1)] * 6, SIX_RING)


class CutTest(unittest.TestCase):
    def cut_out(self, form, atoms):
        row = row_of(self, ask(self, cut, form, atoms))
        self.assertEqual(ask(self, judge, row)[:2], [0, len(atoms)])
        return row

    def not_rising(self, form, atoms):
        self.assertEqual(ask(self, cut, form, atoms), [-1])


class FormTest(CutTest):
    def test_no_atoms(self):
        for form in (CHAIN, molecule([])):
            self.assertEqual(ask(self, cut, form, []), [0, 6, 70, 75, 80, 49, 0, 0])

    def test_one_atom(self):
        row = self.cut_out(CHAIN, [2])
        self.assertEqual(row, [70, 75, 80, 49, 1, 0, 1, 8, 245, 1, 0, 8, 0, 7, 0, 127, 0, 0, 125, 1, 0, 0])

    def test_some_atoms(self):
        self.assertEqual(self.cut_out(CHAIN, [0, 2]), pattern([said((6,)), said((8,))]))
        some = pattern([said((6,)), said((7,)), said((9,))], [joined(0, 1, 2, 1)])
        self.assertEqual(self.cut_out(CHAIN, [0, 1, 3]), some)
        others = pattern([said((7,)), said((8,)), said((9,))], [joined(0, 1, 4, 1), joined(1, 2, 1, 1)])
        self.assertEqual(self.cut_out(CHAIN, [1, 2, 3]), others)

    def test_all_atoms(self):
        bonds = [joined(0, 1, 2, 1), joined(1, 2, 4, 1), joined(2, 3, 1, 1)]
        self.assertEqual(self.cut_out(CHAIN, [0, 1, 2, 3]), pattern([said((k,)) for k in (6, 7, 8, 9)], bonds))

    def test_hands_sides_and_rings_are_not_said(self):
        form = molecule([atom(hand=1)] + [atom()] * 5,
                        [bond(0, 1), bond(0, 2), bond(0, 3), bond(1, 2), bond(3, 4, 2, 1), bond(4, 5)])
        bonds = [joined(0, 1, 1, 1), joined(0, 2, 1, 1), joined(0, 3, 1, 1), joined(1, 2, 1, 1), joined(3, 4, 2, 1),
                 joined(4, 5, 1, 1)]
        self.assertEqual(self.cut_out(form, [0, 1, 2, 3, 4, 5]), pattern([said((6,))] * 6, bonds))

    def test_orders_over_the_redrawings(self):
        both = pattern([said((6,))] * 3, [joined(0, 1, 3, 1), joined(1, 2, 3, 1)])
        self.assertEqual(self.cut_out(BENZENE, [0, 1, 2]), both)
        square = molecule([atom()] * 4, [bond(0, 1, 2), bond(0, 3, 2), bond(1, 2, 2), bond(2, 3, 2)])
        self.assertEqual(self.cut_out(square, [0, 1]), pattern([said((6,))] * 2, [joined(0, 1, 7, 1)]))
        upper = molecule([atom()] * 4, [bond(0, 1, 2), bond(0, 3, 3), bond(1, 2, 3), bond(2, 3, 2)])
        self.assertEqual(self.cut_out(upper, [0, 1]), pattern([said((6,))] * 2, [joined(0, 1, 6, 1)]))
        barbell = molecule([atom()] * 6, [bond(0, 1, 1), bond(0, 2, 2), bond(1, 2, 2), bond(2, 3, 1), bond(3, 4, 2),
                                          bond(3, 5, 2), bond(4, 5, 1)])
        self.assertEqual(self.cut_out(barbell, [2, 3]), pattern([said((6,))] * 2, [joined(0, 1, 5, 1)]))

    def test_redrawn_the_same_is_cut_out(self):
        other = molecule([atom(hydrogens=1)] * 6, [x._replace(order=3 - x.order) for x in SIX_RING])
        for size in range(7):
            for atoms in itertools.combinations(range(6), size):
                self.assertEqual(cut(BENZENE, list(atoms)), cut(other, list(atoms)))

    def test_by_lot(self):
        lot = random.Random(31)
        for k in range(120):
            mol = some_molecule(lot, lot.randint(1, 9), 8)
            atoms = sorted(lot.sample(range(len(mol.atoms)), lot.randint(0, len(mol.atoms))))
            row = self.cut_out(molecule_form(mol), atoms)
            self.assertEqual(row, expected(mol, atoms))
            other = redrawn(mol, lot.choice(redrawings(mol)))
            self.assertEqual(self.cut_out(molecule_form(other), atoms), row)


def expected(mol, atoms):
    drawn = orders_drawn(mol)
    bonds = []
    for x, orders in zip(mol.bonds, drawn):
        if x.a in atoms and x.b in atoms:
            bits = sum(1 << order - 1 for order in orders)
            bonds.append(joined(atoms.index(x.a), atoms.index(x.b), bits, 1))
    return pattern([said((mol.atoms[k].element,)) for k in atoms], bonds)


class StandsTest(CutTest):
    def test_what_is_cut_out_stands_where_it_was_cut(self):
        lot = random.Random(32)
        for k in range(60):
            mol = some_molecule(lot, lot.randint(1, 7), 7)
            form = molecule_form(mol)
            atoms = sorted(lot.sample(range(len(mol.atoms)), lot.randint(0, min(5, len(mol.atoms)))))
            part = self.cut_out(form, atoms)
            self.assertGreater(ask(self, count, part, form)[1], 0)
            self.assertIn(atoms, maps_of(read_pattern(part, 0), read_molecule(form, 1)))

    def test_whatever_hydrogens_and_charges_there_are(self):
        form = molecule([atom(6, 500, -4, 7), atom(7, 0, 4, 0)], [bond(0, 1, 3)])
        self.assertEqual(count(self.cut_out(form, [0, 1]), form), [0, 1, 1])


class RefusalTest(CutTest):
    def test_falling(self):
        self.not_rising(CHAIN, [1, 0])
        self.not_rising(CHAIN, [0, 2, 1])
        self.not_rising(CHAIN, [3, 2, 1, 0])

    def test_twice(self):
        self.not_rising(CHAIN, [0, 0])
        self.not_rising(CHAIN, [0, 1, 1, 2])

    def test_not_below_n(self):
        self.not_rising(CHAIN, [4])
        self.not_rising(CHAIN, [0, 4])
        self.not_rising(CHAIN, [0, 1, 2, 3, 4])
        self.not_rising(CHAIN, [255])
        self.not_rising(CHAIN, [256])
        self.not_rising(CHAIN, [4294967295])
        self.not_rising(CHAIN, [0, 4294967295])
        self.not_rising(molecule([]), [0])
        self.not_rising(CHAIN, list(range(200)))
        self.not_rising(CHAIN, [0] * 200)

    def test_the_last_atom_is_below_n(self):
        self.cut_out(CHAIN, [3])

    def test_faulty_molecule_whatever_the_atoms(self):
        faults = (
            ([], 5, 0), ([0], 1, 0), (CHAIN[:-1], 5, len(CHAIN) - 1), (CHAIN + [0], 7, len(CHAIN)),
            (molecule([atom(), atom(119)]), 2, 12),
            (molecule([atom()] * 3, [bond(0, 2), bond(0, 1)]), 3, 28),
            (molecule([atom(), atom(hand=1)]), 4, 17),
            (molecule([atom()] * 2, [bond(0, 1, 2, 1)]), 6, 21),
        )
        for form, rule, place in faults:
            for atoms in ([], [0], [1, 0], [0, 0], [9], [4294967295]):
                self.assertEqual(ask(self, cut, form, atoms), [-5, 0, rule, place])

    def test_own_and_cut_leave_one_another_alone(self):
        before = own(CHAIN)
        self.not_rising(CHAIN, [9])
        self.assertEqual(own(CHAIN), before)

    def test_many_redrawings(self):
        pairs = [(a, b) for a in range(3) for b in range(3, 7)]
        form = molecule([atom()] * 7, [bond(a, b, 2) for a, b in pairs])
        bonds = [joined(a, b, 7, 1) for a, b in pairs]
        self.assertEqual(self.cut_out(form, list(range(7))), pattern([said((6,))] * 7, bonds))


if __name__ == "__main__":
    unittest.main()
