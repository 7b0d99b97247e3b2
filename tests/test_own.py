import random
import unittest

from moleculeparts.parts import judge, own
from tests.helper import MOLECULE_MARK, Molecule, ask, atom, bond, hand_may_be, low_high, molecule, molecule_form
from tests.helper import neighbours, orders_drawn, row_of, side_may_be, some_molecule, sum_at, with_byte

HEAD = [70, 75, 80, 49]


class OwnTest(unittest.TestCase):
    def owned(self, form):
        row = row_of(self, ask(self, own, form))
        self.assertEqual(ask(self, judge, row), [0, form[4], form[5]])
        return row

    def taken(self, form):
        self.assertEqual(ask(self, own, form)[0], 0)

    def faulty(self, form, rule, place):
        self.assertEqual(ask(self, own, form), [-5, 0, rule, place])


class FormTest(OwnTest):
    def test_no_atoms(self):
        self.assertEqual(own([70, 75, 77, 49, 0, 0]), [0, 6, 70, 75, 80, 49, 0, 0])
        self.owned(molecule([]))

    def test_one_atom(self):
        row = self.owned([70, 75, 77, 49, 1, 0, 8, 18, 0, 3, 2, 0])
        self.assertEqual(row, HEAD + [1, 0, 1, 8, 18, 0, 3, 3, 2, 2, 0, 0, 0, 0, 0, 0, 0, 3])

    def test_outermost_numbers(self):
        row = self.owned(molecule([atom(118, 500, 4, 7), atom(1, 0, -4, 0)]))
        first = [1, 118, 244, 1, 8, 8, 7, 7, 0, 0, 0, 0, 0, 0, 0, 3]
        second = [1, 1, 0, 0, 0, 0, 0, 0, 0, 0, 0, 0, 0, 0, 0, 3]
        self.assertEqual(row, HEAD + [2, 0] + first + second)

    def test_neighbours_sums_and_any_order(self):
        row = self.owned(molecule([atom(6, 13, 1, 1), atom(7), atom(8, 0, -1)], [bond(0, 1, 2), bond(1, 2, 3)]))
        self.assertEqual(row, HEAD + [3, 2]
                         + [1, 6, 13, 0, 5, 5, 1, 1, 1, 1, 2, 0, 2, 0, 0, 3]
                         + [1, 7, 0, 0, 4, 4, 0, 0, 2, 2, 5, 0, 5, 0, 0, 3]
                         + [1, 8, 0, 0, 3, 3, 0, 0, 1, 1, 3, 0, 3, 0, 0, 3]
                         + [0, 1, 7, 0, 0, 3] + [1, 2, 7, 0, 0, 3])

    def test_rings_are_not_told(self):
        row = self.owned(molecule([atom()] * 3, [bond(0, 1), bond(0, 2), bond(1, 2)]))
        one = [1, 6, 0, 0, 4, 4, 0, 0, 2, 2, 2, 0, 2, 0, 0, 3]
        self.assertEqual(row, HEAD + [3, 3] + one * 3 + [0, 1, 7, 0, 0, 3, 0, 2, 7, 0, 0, 3, 1, 2, 7, 0, 0, 3])

    def test_hands(self):
        for hand, told in ((0, 3), (1, 1), (2, 2)):
            row = self.owned(molecule([atom(hydrogens=1, hand=hand)] + [atom(k) for k in (7, 8, 9)],
                                      [bond(0, 1), bond(0, 2), bond(0, 3)]))
            self.assertEqual(row[6:22], [1, 6, 0, 0, 4, 4, 1, 1, 3, 3, 3, 0, 3, 0, 0, told])

    def test_sides(self):
        for side, told in ((0, 3), (1, 1), (2, 2)):
            row = self.owned(molecule([atom()] * 4, [bond(0, 1), bond(1, 2, 2, side), bond(2, 3)]))
            self.assertEqual(row[-18:], [0, 1, 7, 0, 0, 3, 1, 2, 7, 0, 0, told, 2, 3, 7, 0, 0, 3])

    def test_molecules_by_lot(self):
        lot = random.Random(21)
        hands = 0
        sides = 0
        for k in range(150):
            mol = some_molecule(lot, lot.randint(0, 9), 8)
            self.assertEqual(self.owned(molecule_form(mol)), expected(mol))
            hands += len([x for x in mol.atoms if x.hand])
            sides += len([x for x in mol.bonds if x.side])
        self.assertGreater(min(hands, sides), 20)


def expected(mol):
    orders = [x.order for x in mol.bonds]
    form = HEAD + [len(mol.atoms), len(mol.bonds)]
    for k, x in enumerate(mol.atoms):
        count = len(neighbours(mol, k))
        total = low_high(sum_at(mol.bonds, orders, k))
        form += [1, x.element] + low_high(x.isotope) + [x.charge + 4] * 2 + [x.hydrogens] * 2 + [count] * 2
        form += total + total + [0, x.hand or 3]
    for x in mol.bonds:
        form += [x.a, x.b, 7, 0, 0, x.side or 3]
    return form


class MarkAndEndTest(OwnTest):
    def test_mark(self):
        for place in range(4):
            for byte in (0, 255, MOLECULE_MARK[place] - 1, MOLECULE_MARK[place] + 1):
                self.faulty(with_byte(molecule([atom()]), place, byte), 1, place)
        self.faulty([70, 75, 80, 49, 0, 0], 1, 2)
        self.faulty([0, 0], 1, 0)

    def test_empty(self):
        self.faulty([], 5, 0)

    def test_ends_at_every_place(self):
        form = molecule([atom(7, 15, 1, 1, 2), atom(), atom(), atom(8, 300)], [bond(0, 1), bond(0, 2), bond(0, 3)])
        self.taken(form)
        for end in range(len(form)):
            self.faulty(form[:end], 5, end)

    def test_half_an_isotope_is_not_judged(self):
        self.faulty(MOLECULE_MARK + [1, 0, 6, 255], 5, 8)

    def test_left_over(self):
        for form in (molecule([]), molecule([atom()]), molecule([atom()] * 2, [bond(0, 1)])):
            self.faulty(form + [0], 7, len(form))
            self.faulty(form + [7, 7], 7, len(form))
            self.faulty(form + [0] * (6000 - len(form)), 7, len(form))


class BoundsTest(OwnTest):
    def byte(self, form, place, inside, outside):
        for byte in inside:
            self.taken(with_byte(form, place, byte))
        for byte in outside:
            self.faulty(with_byte(form, place, byte), 2, place)

    def test_as_many_atoms_and_bonds_as_are_handed_in(self):
        ring = [bond(0, 1), bond(0, 8)] + [bond(k, k + 1) for k in range(1, 8)]
        more = sorted(ring + [bond(0, 4), bond(1, 5), bond(2, 6)])
        self.taken(molecule([atom()] * 9, more))

    def test_atoms(self):
        form = molecule([atom(), atom(7, 1, 0, 1)])
        for first in (6, 12):
            self.byte(form, first, [1, 118], [0, 119, 255])
            self.byte(form, first + 3, [0, 4, 8], [9, 255])
            self.byte(form, first + 4, [0, 7], [8, 255])
            self.byte(form, first + 5, [0], [3, 255])

    def test_isotope(self):
        for isotope in (0, 1, 255, 256, 499, 500):
            self.taken(molecule([atom(6, isotope)]))
        for isotope in (501, 502, 511, 512, 65535):
            self.faulty(molecule([atom(), atom(6, isotope)]), 2, 13)

    def test_bonds(self):
        form = molecule([atom()] * 5, [bond(0, 1), bond(1, 2), bond(2, 3), bond(3, 4)])
        first = len(form) - 12
        self.byte(form, first, [0, 1], [5, 6, 255])
        self.byte(form, first + 1, [2, 3, 4], [0, 1, 5, 255])
        self.byte(form, first + 2, [1, 2, 3], [0, 4, 255])
        self.byte(with_byte(form, first + 2, 2), first + 3, [0, 1, 2], [3, 255])

    def test_a_is_judged_before_b(self):
        form = molecule([atom()] * 3, [bond(0, 1)])
        self.faulty(with_byte(form, len(form) - 4, 3), 2, len(form) - 4)
        self.faulty(with_byte(form, len(form) - 4, 2), 2, len(form) - 3)
        self.faulty(with_byte(form, len(form) - 4, 1), 2, len(form) - 3)

    def test_no_atoms_let_no_bonds_be(self):
        self.faulty(MOLECULE_MARK + [0, 1, 0, 1, 1, 0], 2, 6)
        self.faulty(MOLECULE_MARK + [0, 12], 5, 6)


class OrderOfBondsTest(OwnTest):
    def test_not_behind_the_one_before(self):
        for before, behind in (((0, 1), (0, 1)), ((1, 2), (0, 3)), ((0, 2), (0, 1)), ((1, 3), (0, 3))):
            form = molecule([atom()] * 4, [bond(*before), bond(*behind)])
            self.faulty(form, 3, len(form) - 4)

    def test_asked_when_a_and_b_are_read(self):
        form = molecule([atom()] * 4, [bond(1, 2), bond(0, 3)])
        self.faulty(form[:-3], 5, len(form) - 3)
        self.faulty(form[:-2], 3, len(form) - 4)
        self.faulty(with_byte(form, len(form) - 3, 4), 2, len(form) - 3)
        self.faulty(with_byte(form, len(form) - 2, 0), 3, len(form) - 4)


class WhichFaultTest(OwnTest):
    def test_the_one_met_first_from_front_to_back(self):
        # Atoms from 6, 12, 18, 24; bonds from 30, 34; a byte left over at 38.
        form = molecule([atom(hand=1)] * 4, [bond(0, 1, 1, 1), bond(0, 2)]) + [9]
        self.faulty(form, 7, 38)
        # From the back to the front each new fault is told in the place of those behind it.
        for place, byte, rule, told in (
            (37, 3, 2, 37), (35, 1, 3, 34), (33, 3, 2, 33), (32, 0, 2, 32), (31, 0, 2, 31), (30, 4, 2, 30),
            (29, 3, 2, 29), (28, 8, 2, 28), (27, 9, 2, 27), (26, 2, 2, 25), (6, 0, 2, 6), (3, 0, 1, 3), (0, 0, 1, 0),
        ):
            form = with_byte(form, place, byte)
            self.faulty(form, rule, told)

    def test_hand_only_if_nothing_is_met_before(self):
        form = molecule([atom(hand=1), atom()], [bond(0, 1, 1, 1)])
        self.faulty(form, 4, 11)
        self.faulty(form + [0], 7, len(form))
        self.faulty(form[:-1], 5, len(form) - 1)
        self.faulty(with_byte(form, len(form) - 1, 3), 2, len(form) - 1)
        self.faulty(with_byte(form, 0, 3), 1, 0)
        twice = molecule([atom(hand=1), atom()], [bond(0, 1), bond(0, 1)])
        self.faulty(twice, 3, len(twice) - 4)

    def test_side_only_if_no_hand(self):
        form = molecule([atom(), atom()], [bond(0, 1, 2, 1)])
        self.faulty(form, 6, len(form) - 1)
        self.faulty(form + [0], 7, len(form))
        self.faulty(with_byte(form, 17, 2), 4, 17)

    def test_first_such_hand(self):
        atoms = [atom(hand=2), atom(), atom(hand=1), atom(hand=2)]
        self.faulty(molecule(atoms, [bond(0, 1), bond(0, 2), bond(0, 3)]), 4, 23)

    def test_first_such_side(self):
        bonds = [bond(0, 1), bond(1, 2, 2, 1), bond(2, 3, 1, 1), bond(3, 4, 2, 1)]
        form = molecule([atom()] * 5, bonds)
        self.faulty(form, 6, len(form) - 5)
        bonds[0] = bond(0, 1, 1, 2)
        self.faulty(molecule([atom()] * 5, bonds), 6, len(form) - 13)

    def test_any_bytes_are_answered(self):
        lot = random.Random(22)
        base = molecule([atom(), atom(hydrogens=1), atom(7), atom()], [bond(0, 1), bond(1, 2, 2), bond(1, 3)])
        for k in range(400):
            form = list(base)
            for j in range(lot.randint(1, 3)):
                place = lot.choice([x for x in range(len(form)) if x not in (4, 5)])
                form[place] = lot.choice((0, 1, 2, 3, lot.randint(0, 255)))
            form = form[:lot.choice((len(form), lot.randint(0, len(form))))]
            answer = ask(self, own, form)
            if answer[0] == 0:
                self.owned(form)
            else:
                self.assertEqual(answer[:2], [-5, 0])
                self.assertEqual(len(answer), 4)


class HandTest(OwnTest):
    def test_where_one_may_be(self):
        for hand in (1, 2):
            for count in range(7):
                for hydrogens in range(8):
                    form = molecule([atom(15, 0, 0, hydrogens, hand)] + [atom()] * 6,
                                    [bond(0, k + 1) for k in range(count)])
                    if (count, hydrogens) in ((3, 0), (3, 1), (4, 0)):
                        self.taken(form)
                    else:
                        self.faulty(form, 4, 11)

    def test_neighbours_with_lower_numbers_count(self):
        form = molecule([atom()] * 3 + [atom(hand=1)], [bond(0, 3), bond(1, 3, 3), bond(2, 3)])
        self.taken(form)
        fewer = molecule([atom()] * 3 + [atom(hand=1)], [bond(0, 3), bond(1, 3, 3)])
        self.faulty(fewer, 4, 29)


class SideTest(OwnTest):
    def test_orders(self):
        for side in (1, 2):
            for order in (1, 2, 3):
                form = molecule([atom()] * 4, [bond(0, 1), bond(1, 2, order, side), bond(2, 3)])
                if order == 2:
                    self.taken(form)
                else:
                    self.faulty(form, 6, len(form) - 5)

    def test_ends(self):
        for at_a in range(4):
            for at_b in range(4):
                for hydrogens in range(3):
                    for on_b in range(3):
                        self.ends(at_a, at_b, hydrogens, on_b)

    def ends(self, at_a, at_b, on_a, on_b):
        bonds = [bond(0, 1, 2, 1)] + [bond(0, 2 + k) for k in range(at_a)] + [bond(1, 5 + k) for k in range(at_b)]
        form = molecule([atom(hydrogens=on_a), atom(hydrogens=on_b)] + [atom()] * 6, bonds)
        if at_a in (1, 2) and at_b in (1, 2) and at_a + on_a <= 2 and at_b + on_b <= 2:
            self.taken(form)
        else:
            self.faulty(form, 6, 6 + 8 * 6 + 3)

    def ring(self, orders, side_at):
        n = len(orders)
        pairs = [(k, k + 1) for k in range(n - 1)] + [(0, n - 1)]
        bonds = [bond(a, b, orders[k], 1 if k == side_at else 0) for k, (a, b) in enumerate(pairs)]
        bonds = sorted(bonds)
        place = 6 + 6 * n + 4 * [k for k, x in enumerate(bonds) if x.side][0] + 3
        return [molecule([atom()] * n, bonds), place]

    def test_ring_whose_bonds_go_up_and_down_in_turn(self):
        for orders in ((2, 1, 2, 1), (2, 1, 2, 1, 2, 1), (2, 2, 2, 2), (2, 3, 2, 3), (2, 1, 2, 1, 2, 2)):
            form, place = self.ring(orders, 0)
            self.faulty(form, 6, place)

    def test_ring_that_is_fixed(self):
        for orders in ((2, 1, 1, 1), (2, 1, 1), (2, 1, 2, 1, 1), (2, 2, 2), (2, 1, 1, 1, 1, 1), (2, 1, 2, 1, 1, 1),
                       (2, 3, 1, 1), (2, 1, 2, 3)):
            self.taken(self.ring(orders, 0)[0])

    def test_double_bond_beside_such_a_ring_is_fixed(self):
        ring = [bond(0, 1, 2), bond(0, 3), bond(1, 2), bond(2, 3, 2)]
        form = molecule([atom()] * 7, sorted(ring + [bond(3, 4), bond(4, 5, 2, 2), bond(5, 6)]))
        self.taken(form)

    def test_odd_rings_tied_together(self):
        # Two rings of three with a bond between: if this goes up by two, the rings' bonds go up and down by one.
        pairs = [(0, 1), (0, 2), (1, 2), (2, 3), (3, 4), (3, 5), (4, 5)]
        for between, drawn in ((1, {2, 3}), (2, {2}), (3, {2})):
            orders = (2, 2, 2, between, 2, 2, 1)
            bonds = [bond(a, b, order) for (a, b), order in zip(pairs, orders)]
            self.assertEqual(orders_drawn(Molecule([atom()] * 6, bonds))[0], drawn)
            bonds[0] = bond(0, 1, 2, 1)
            form = molecule([atom()] * 6, bonds)
            if drawn == {2}:
                self.taken(form)
            else:
                self.faulty(form, 6, 6 + 36 + 3)

    def test_every_side_and_hand_by_lot(self):
        lot = random.Random(23)
        told = {0: 0, 4: 0, 6: 0}
        for k in range(250):
            mol = some_molecule(lot, lot.randint(4, 7), 8)
            mol = Molecule([x._replace(hand=0) for x in mol.atoms], [x._replace(side=0) for x in mol.bonds])
            drawn = orders_drawn(mol)
            for j in range(len(mol.bonds)):
                bonds = [x._replace(side=1 if i == j else 0) for i, x in enumerate(mol.bonds)]
                answer = ask(self, own, molecule(mol.atoms, bonds))
                place = 6 + 6 * len(mol.atoms) + 4 * j + 3
                self.asked(told, answer, side_may_be(mol, j, drawn), 6, place)
            for j in range(len(mol.atoms)):
                atoms = [x._replace(hand=2 if i == j else 0) for i, x in enumerate(mol.atoms)]
                self.asked(told, ask(self, own, molecule(atoms, mol.bonds)), hand_may_be(mol, j), 4, 11 + 6 * j)
        self.assertGreater(min(told.values()), 40)

    def asked(self, told, answer, may_be, rule, place):
        told[0 if may_be else rule] += 1
        if may_be:
            self.assertEqual(answer[0], 0)
        else:
            self.assertEqual(answer, [-5, 0, rule, place])


if __name__ == "__main__":
    unittest.main()
