import itertools
import random
import unittest

from moleculeparts.parts import common
from tests.helper import A_MOLECULE, FAULTY_MOLECULES, Molecule, ask, atom, bond, greatest_piece, mirrored, molecule
from tests.helper import molecule_form, orders_drawn, redrawings, redrawn, renumbered, row_of, some_molecule, turned_molecule

SIX_RING = [bond(0, 1, 2), bond(0, 5), bond(1, 2), bond(2, 3, 2), bond(3, 4), bond(4, 5, 2)]
BENZENE = molecule([atom()] * 6, SIX_RING)


def ring(n, order=1):
    return molecule([atom()] * n, sorted([bond(k, k + 1, order) for k in range(n - 1)] + [bond(0, n - 1, order)]))


def chain(n, order=1):
    return molecule([atom()] * n, [bond(k, k + 1, order) for k in range(n - 1)])


def piece_of(mol, atoms):
    """Those of the atoms that the first of them comes to, bond by bond among them."""
    reached = {atoms[0]}
    for k in atoms:
        for x in mol.bonds:
            if x.a in atoms and x.b in atoms and (x.a in reached or x.b in reached):
                reached.update((x.a, x.b))
    return reached


def bonds_drawn(mol):
    """Of each two atoms that are joined the orders that their bond has in some redrawing."""
    return {frozenset((x.a, x.b)): orders for x, orders in zip(mol.bonds, orders_drawn(mol))}


def tried(one, other):
    """The greatest part in common by trying every row of atoms with every row of partners."""
    one_drawn = bonds_drawn(one)
    other_drawn = bonds_drawn(other)

    def is_part(atoms, partners):
        if any(one.atoms[a][:3] != other.atoms[b][:3] for a, b in zip(atoms, partners)):
            return False
        for (a, b), (c, d) in itertools.combinations(zip(atoms, partners), 2):
            if one_drawn.get(frozenset((a, c))) != other_drawn.get(frozenset((b, d))):
                return False
        return True

    for size in range(min(len(one.atoms), len(other.atoms)), 0, -1):
        rows = []
        for atoms in itertools.combinations(range(len(one.atoms)), size):
            if len(piece_of(one, atoms)) == size:
                for partners in itertools.permutations(range(len(other.atoms)), size):
                    if is_part(atoms, partners):
                        rows.append([x for pair in zip(atoms, partners) for x in pair])
        if rows:
            return min(rows)
    return []


class CommonTest(unittest.TestCase):
    def row_is(self, one, other, row):
        self.assertEqual(ask(self, common, one, other), [0, len(row)] + row)

    def size(self, one, other):
        row = row_of(self, ask(self, common, one, other))
        self.assertEqual(len(row) % 2, 0)
        return len(row) // 2

    def sizes_are(self, one, other, size):
        self.assertEqual((self.size(one, other), self.size(other, one)), (size, size))


class RowTest(CommonTest):
    def test_each_atom_rising_with_its_partner_behind_it(self):
        one = molecule([atom(6), atom(7), atom(8)], [bond(0, 1), bond(1, 2)])
        other = molecule([atom(8), atom(9), atom(7), atom(6)], [bond(0, 2), bond(1, 3), bond(2, 3)])
        self.assertEqual(ask(self, common, one, other), [0, 6, 0, 3, 1, 2, 2, 0])
        self.assertEqual(ask(self, common, other, one), [0, 6, 0, 2, 2, 1, 3, 0])

    def test_one_atom(self):
        self.row_is(molecule([atom()]), molecule([atom()]), [0, 0])
        self.row_is(molecule([atom(7), atom()]), molecule([atom(9), atom(8), atom()]), [1, 2])

    def test_no_atoms(self):
        self.row_is(molecule([]), molecule([]), [])
        self.row_is(molecule([]), BENZENE, [])
        self.row_is(BENZENE, molecule([]), [])

    def test_none_alike(self):
        self.row_is(BENZENE, molecule([atom(7)] * 6, SIX_RING), [])
        one = molecule([atom(6), atom(7, 15), atom(8, 0, -1)], [bond(0, 1), bond(1, 2)])
        other = molecule([atom(6, 13), atom(7), atom(8)], [bond(0, 1), bond(1, 2)])
        self.assertEqual(ask(self, common, one, other), [0, 0])

    def test_the_most_that_is_handed_in(self):
        pairs = [(a, b) for a in range(3) for b in range(3, 7)]
        for bonds in ([bond(0, k) for k in range(1, 7)], [bond(k, 6) for k in range(6)], [bond(a, b) for a, b in pairs]):
            mol = molecule([atom()] * 7, bonds)
            self.row_is(mol, mol, [x for k in range(7) for x in (k, k)])


class AlikeTest(CommonTest):
    def test_element_isotope_and_charge_each_tell_apart(self):
        plain = atom(6, 0, 0)
        for other in (atom(7, 0, 0), atom(6, 13, 0), atom(6, 256, 0), atom(6, 0, 1), atom(6, 0, -1)):
            self.row_is(molecule([plain]), molecule([other]), [])
            self.row_is(molecule([other]), molecule([plain]), [])
            self.row_is(molecule([other]), molecule([plain, other]), [0, 1])
            one = molecule([plain, other, plain], [bond(0, 1), bond(1, 2)])
            self.sizes_are(one, chain(3), 1)
            self.sizes_are(one, one, 3)
        self.row_is(molecule([atom(6, 13)]), molecule([atom(6, 14)]), [])
        self.row_is(molecule([atom(6, 1)]), molecule([atom(6, 257)]), [])
        self.row_is(molecule([atom(charge=-4)]), molecule([atom(charge=4)]), [])

    def test_hydrogens_are_not_looked_at(self):
        for hydrogens in range(8):
            other = molecule([atom(hydrogens=hydrogens)] * 2, [bond(0, 1)])
            self.row_is(molecule([atom(hydrogens=3)] * 2, [bond(0, 1)]), other, [0, 0, 1, 1])

    def test_hands_are_not_looked_at(self):
        leaves = [atom(k) for k in (9, 17, 35)]
        bonds = [bond(0, k) for k in (1, 2, 3)]
        for one, other in itertools.product((0, 1, 2), repeat=2):
            self.row_is(molecule([atom(hand=one)] + leaves, bonds), molecule([atom(hand=other)] + leaves, bonds),
                        [0, 0, 1, 1, 2, 2, 3, 3])

    def test_sides_are_not_looked_at(self):
        for one, other in itertools.product((0, 1, 2), repeat=2):
            forms = [molecule([atom()] * 4, [bond(0, 1), bond(1, 2, 2, side), bond(2, 3)]) for side in (one, other)]
            self.row_is(forms[0], forms[1], [0, 0, 1, 1, 2, 2, 3, 3])

    def test_neighbours_and_sums_of_the_atoms_are_not_looked_at(self):
        star = molecule([atom()] * 5, [bond(0, k) for k in (1, 2, 3, 4)])
        self.row_is(chain(3), star, [0, 1, 1, 0, 2, 2])
        one = molecule([atom(), atom(7), atom(8)], [bond(0, 1), bond(1, 2, 3)])
        self.row_is(one, molecule([atom(), atom(7)], [bond(0, 1)]), [0, 0, 1, 1])


class JoinedTest(CommonTest):
    def test_a_ring_against_a_chain(self):
        # Of a ring one atom is left out: with all of them the chain's ends would have to be joined.
        for n in (3, 4, 5, 6, 7):
            self.sizes_are(ring(n), chain(7), n - 1)
            self.sizes_are(ring(n), ring(n), n)
        self.row_is(ring(4), chain(4), [0, 0, 1, 1, 2, 2])
        self.row_is(chain(4), ring(4), [0, 0, 1, 1, 2, 2])

    def test_rings_of_other_lengths(self):
        self.sizes_are(ring(3), ring(4), 2)
        self.sizes_are(ring(5), ring(7), 4)

    def test_atoms_that_are_not_joined_have_partners_that_are_not(self):
        every = molecule([atom()] * 4, [bond(a, b) for a, b in itertools.combinations(range(4), 2)])
        square = ring(4)
        self.sizes_are(every, square, 2)
        self.sizes_are(every, molecule([atom()] * 4, [bond(0, 1), bond(0, 2), bond(1, 2), bond(2, 3)]), 3)
        star = molecule([atom()] * 5, [bond(0, k) for k in (1, 2, 3, 4)])
        self.sizes_are(star, every, 2)
        self.sizes_are(star, square, 3)

    def test_bonds_of_one_order(self):
        for one, other in itertools.product((1, 2, 3), repeat=2):
            self.sizes_are(chain(2, one), chain(2, other), 2 if one == other else 1)
        one = molecule([atom()] * 5, [bond(0, 1), bond(1, 2, 2), bond(2, 3, 3), bond(3, 4)])
        other = molecule([atom()] * 4, [bond(0, 1, 3), bond(1, 2, 2), bond(2, 3, 2)])
        self.row_is(one, other, [1, 2, 2, 1, 3, 0])
        self.sizes_are(one, other, 3)

    def test_orders_over_the_redrawings(self):
        # In the ring each bond has orders 1 and 2; in the chain of doubles and singles each is fixed.
        other_way = molecule([atom()] * 6, [x._replace(order=3 - x.order) for x in SIX_RING])
        fixed = molecule([atom()] * 6, [bond(k, k + 1, 2 - k % 2) for k in range(5)])
        self.sizes_are(BENZENE, other_way, 6)
        self.sizes_are(BENZENE, fixed, 1)
        self.sizes_are(BENZENE, ring(6), 1)
        self.sizes_are(BENZENE, ring(6, 2), 1)
        self.row_is(BENZENE, other_way, [0, 0, 1, 1, 2, 2, 3, 3, 4, 4, 5, 5])

    def test_parts_of_rings_that_are_not_fixed(self):
        square = molecule([atom()] * 4, [bond(0, 1, 2), bond(0, 3), bond(1, 2), bond(2, 3, 2)])
        self.sizes_are(BENZENE, square, 3)
        # These squares have orders 1, 2, 3; 2, 3; and 1, 2.
        doubles = ring(4, 2)
        upper = molecule([atom()] * 4, [bond(0, 1, 2), bond(0, 3, 3), bond(1, 2, 3), bond(2, 3, 2)])
        forms = (doubles, upper, square)
        for one, other in itertools.product(forms, repeat=2):
            self.sizes_are(one, other, 4 if one == other else 1)

    def test_orders_1_and_3_without_2(self):
        bonds = [bond(0, 1, 1), bond(0, 2, 2), bond(1, 2, 2), bond(2, 3, 1), bond(3, 4, 2), bond(3, 5, 2), bond(4, 5, 1)]
        atoms = [atom(), atom(), atom(7), atom(8), atom(), atom()]
        barbell = molecule(atoms, bonds)
        drawn = [bond(0, 1, 2), bond(0, 2, 1), bond(1, 2, 1), bond(2, 3, 3), bond(3, 4, 1), bond(3, 5, 1), bond(4, 5, 2)]
        self.sizes_are(barbell, molecule(atoms, drawn), 6)
        for order in (1, 2, 3):
            self.sizes_are(barbell, molecule([atom(7), atom(8)], [bond(0, 1, order)]), 1)


class PieceTest(CommonTest):
    def test_two_pieces_the_greatest_one_alone(self):
        pieces = molecule([atom()] * 7, [bond(0, 1), bond(2, 3), bond(3, 4), bond(4, 5)])
        self.row_is(pieces, pieces, [2, 2, 3, 3, 4, 4, 5, 5])
        self.row_is(pieces, chain(7), [2, 0, 3, 1, 4, 2, 5, 3])
        alone = molecule([atom()] * 4)
        self.row_is(alone, alone, [0, 0])
        self.row_is(alone, chain(4), [0, 0])

    def test_what_ties_them_must_be_among_them(self):
        # 6 and 8 are tied by 7 in the one, by 9 in the other.
        one = molecule([atom(6), atom(7), atom(8)], [bond(0, 1), bond(1, 2)])
        other = molecule([atom(6), atom(9), atom(8)], [bond(0, 1), bond(1, 2)])
        self.row_is(one, other, [0, 0])
        # Both ends of the one are alike, but a bond in the midst is a double one there alone.
        one = molecule([atom()] * 6, [bond(0, 1), bond(1, 2), bond(2, 3, 2), bond(3, 4), bond(4, 5)])
        self.sizes_are(one, chain(6), 3)
        self.row_is(one, chain(6), [0, 0, 1, 1, 2, 2])

    def test_a_molecule_and_itself(self):
        lot = random.Random(91)
        several = 0
        for k in range(60):
            mol = some_molecule(lot, lot.randint(0, 7), 7)
            size = greatest_piece(mol)
            several += 1 < size < len(mol.atoms)
            self.assertEqual(self.size(molecule_form(mol), molecule_form(mol)), size)
            row = list(range(len(mol.atoms)))
            lot.shuffle(row)
            self.sizes_are(molecule_form(mol), molecule_form(renumbered(mol, row)), size)
            self.sizes_are(molecule_form(mol), molecule_form(mirrored(mol)), size)
            self.sizes_are(molecule_form(mol), molecule_form(redrawn(mol, lot.choice(redrawings(mol)))), size)
        self.assertGreater(several, 10)


class FirstRowTest(CommonTest):
    def test_the_first_atoms(self):
        self.row_is(chain(4), chain(2), [0, 0, 1, 1])
        one = molecule([atom(7), atom(), atom(), atom(7), atom(), atom()], [bond(1, 4), bond(2, 5)])
        self.row_is(one, chain(2), [1, 0, 4, 1])

    def test_the_first_partners(self):
        self.row_is(chain(2), chain(4), [0, 0, 1, 1])
        other = molecule([atom(7), atom(), atom(), atom(7), atom(), atom()], [bond(1, 5), bond(2, 4)])
        self.row_is(chain(2), other, [0, 1, 1, 5])

    def test_a_partner_stands_before_the_next_atom(self):
        # 0 1 with 1 2, or 0 2 with 0 3.
        one = molecule([atom(6), atom(7), atom(8)], [bond(0, 1), bond(0, 2)])
        other = molecule([atom(6), atom(6), atom(7), atom(8)], [bond(0, 3), bond(1, 2)])
        self.row_is(one, other, [0, 0, 2, 3])
        # 0 1 with 0 3, or 0 2 with 0 1.
        other = molecule([atom(6), atom(8), atom(9), atom(7)], [bond(0, 1), bond(0, 3)])
        one = molecule([atom(6), atom(7), atom(8)], [bond(0, 1), bond(0, 2), bond(1, 2)])
        self.row_is(one, other, [0, 0, 1, 3])

    def test_most_atoms_before_the_first_row(self):
        one = molecule([atom(7), atom(7), atom(6), atom(6), atom(6)], [bond(0, 1), bond(2, 3), bond(3, 4)])
        self.row_is(one, one, [2, 2, 3, 3, 4, 4])

    def test_a_later_atom_may_lead_to_an_earlier_one(self):
        # In the row 1 stands before 2, though 0 comes to it by 2 alone.
        one = molecule([atom(6), atom(8), atom(7)], [bond(0, 2), bond(1, 2)])
        other = molecule([atom(7), atom(8), atom(6)], [bond(0, 1), bond(0, 2)])
        self.row_is(one, other, [0, 2, 1, 1, 2, 0])


class AgainstTrialTest(CommonTest):
    """Every row of atoms with every row of partners, on molecules by lot."""

    def check(self, one, other):
        row = tried(one, other)
        self.row_is(molecule_form(one), molecule_form(other), row)
        return len(row) // 2

    def test_by_lot(self):
        lot = random.Random(92)
        sizes = [0] * 7
        for k in range(150):
            one = some_molecule(lot, lot.randint(1, 6), 6)
            other = relative(lot, one) if k % 3 else some_molecule(lot, lot.randint(1, 5), 6)
            size = self.check(one, other)
            self.assertEqual(self.size(molecule_form(other), molecule_form(one)), size)
            sizes[size] += 1
        self.assertGreater(min(sizes[:6]), 2)

    def test_atoms_of_one_kind(self):
        lot = random.Random(93)
        sizes = [0] * 7
        for k in range(60):
            one = plain(some_molecule(lot, lot.randint(3, 6), 7))
            other = relative(lot, one) if k % 2 else plain(some_molecule(lot, lot.randint(3, 5), 7))
            size = self.check(one, other)
            self.assertEqual(self.check(other, one), size)
            sizes[size] += 1
        self.assertGreater(min(sizes[2:6]), 2)

    def test_single_bonds(self):
        lot = random.Random(94)
        sizes = [0] * 7
        for k in range(40):
            one = plain(some_molecule(lot, lot.randint(4, 6), 8), 1)
            other = plain(some_molecule(lot, lot.randint(4, 5), 8), 1)
            size = self.check(one, other)
            self.assertEqual(self.check(other, one), size)
            sizes[size] += 1
        self.assertGreater(min(sizes[3:5]), 5)

    def test_seven_atoms(self):
        lot = random.Random(95)
        for k in range(4):
            one = some_molecule(lot, 7, 9)
            self.check(one, relative(lot, one))

    def test_redrawn(self):
        lot = random.Random(97)
        several = 0
        for k in range(80):
            one = plain(some_molecule(lot, lot.randint(3, 7), 8))
            other = relative(lot, one)
            rows = redrawings(one)
            others = redrawings(other)
            several += len(rows) > 1 or len(others) > 1
            row = row_of(self, common(molecule_form(one), molecule_form(other)))
            drawn = (redrawn(one, lot.choice(rows)), redrawn(other, lot.choice(others)))
            self.row_is(molecule_form(drawn[0]), molecule_form(drawn[1]), row)
        self.assertGreater(several, 15)

    def test_renumbered(self):
        lot = random.Random(98)
        for k in range(60):
            one = turned_molecule(lot) if k % 2 else some_molecule(lot, lot.randint(3, 7), 8)
            other = relative(lot, one)
            size = self.size(molecule_form(one), molecule_form(other))
            row = list(range(len(one.atoms)))
            lot.shuffle(row)
            self.sizes_are(molecule_form(renumbered(one, row)), molecule_form(other), size)


def relative(lot, mol):
    """The molecule renumbered, with one atom or one bond of it otherwise, and without hands and sides."""
    row = list(range(len(mol.atoms)))
    lot.shuffle(row)
    mol = renumbered(mol, row)
    atoms = [x._replace(hand=0) for x in mol.atoms]
    bonds = [x._replace(side=0) for x in mol.bonds]
    choice = lot.choice(("atom", "order", "fewer"))
    if choice == "atom" or not bonds:
        k = lot.randrange(len(atoms))
        atoms[k] = atoms[k]._replace(**lot.choice(({"element": 8}, {"isotope": 14}, {"charge": -1}, {"hydrogens": 2})))
    elif choice == "order":
        k = lot.randrange(len(bonds))
        bonds[k] = bonds[k]._replace(order=lot.randint(1, 3))
    else:
        bonds.remove(lot.choice(bonds))
    return Molecule(atoms, bonds)


def plain(mol, order=None):
    """The molecule with atoms of carbon alone, and bonds of one order if that's told."""
    bonds = [bond(x.a, x.b, order or x.order) for x in mol.bonds]
    return Molecule([atom()] * len(mol.atoms), bonds)


class RefusalTest(CommonTest):
    def test_the_first_is_faulty(self):
        for form, rule, place in FAULTY_MOLECULES:
            for other in (A_MOLECULE, molecule([])):
                self.assertEqual(ask(self, common, form, other), [-5, 0, rule, place])

    def test_the_second_is_faulty(self):
        for form, rule, place in FAULTY_MOLECULES:
            for other in (A_MOLECULE, molecule([])):
                self.assertEqual(ask(self, common, other, form), [-5, 1, rule, place])

    def test_both_the_firsts_is_told(self):
        for form, rule, place in FAULTY_MOLECULES:
            for other in FAULTY_MOLECULES:
                self.assertEqual(ask(self, common, form, other[0]), [-5, 0, rule, place])


if __name__ == "__main__":
    unittest.main()
