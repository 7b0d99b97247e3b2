import itertools
import random
import unittest

from moleculeparts.maps import maps_of, places_of
from moleculeparts.molecules import read_molecule
from moleculeparts.parts import count, own
from moleculeparts.patterns import read_pattern
from tests.helper import Molecule, Pattern, Tried, ask, atom, bond, check_refusals, five_atoms, joined, mirrored
from tests.helper import molecule, molecule_form, pattern, pattern_form, redrawings, redrawn, renumbered, row_of, said
from tests.helper import samenesses, some_molecule, some_pattern, turned_molecule, with_turns

SIX_RING = [bond(0, 1, 2), bond(0, 5), bond(1, 2), bond(2, 3, 2), bond(3, 4), bond(4, 5, 2)]
BENZENE = molecule([atom(hydrogens=1)] * 6, SIX_RING)


class CountTest(unittest.TestCase):
    def counted(self, pat, mol, maps, places):
        self.assertEqual(ask(self, count, pat, mol), [0, maps, places])

    def stands(self, pat, mol, whether):
        answer = ask(self, count, pat, mol)
        self.assertEqual(answer[0], 0)
        self.assertEqual((answer[1] > 0, answer[2] > 0), (whether, whether))


class MapsAndPlacesTest(CountTest):
    def test_no_atoms(self):
        self.counted(pattern([]), molecule([]), 1, 1)
        self.counted(pattern([]), molecule([atom()]), 1, 1)
        self.counted(pattern([]), BENZENE, 1, 1)

    def test_more_atoms_than_there_are(self):
        self.counted(pattern([said()]), molecule([]), 0, 0)
        self.counted(pattern([said()] * 3), molecule([atom()] * 2), 0, 0)

    def test_atoms_alone(self):
        self.counted(pattern([said()]), molecule([atom()] * 4), 4, 4)
        self.counted(pattern([said()] * 2), molecule([atom()] * 4), 12, 6)
        self.counted(pattern([said()] * 5), molecule([atom()] * 9), 15120, 126)

    def test_bonds(self):
        self.counted(pattern([said()] * 2, [joined(0, 1)]), BENZENE, 12, 6)
        self.counted(pattern([said()] * 3, [joined(0, 1), joined(1, 2)]), BENZENE, 12, 6)
        self.counted(pattern([said()] * 3, [joined(0, 1), joined(0, 2), joined(1, 2)]), BENZENE, 0, 0)

    def test_images_may_be_joined_otherwise_too(self):
        triangle = molecule([atom()] * 3, [bond(0, 1), bond(0, 2), bond(1, 2)])
        self.counted(pattern([said()] * 3, [joined(0, 1), joined(1, 2)]), triangle, 6, 1)
        self.counted(pattern([said()] * 3), triangle, 6, 1)
        self.counted(pattern([said()] * 2), BENZENE, 30, 15)

    def test_pieces(self):
        mol = molecule([atom(6), atom(7), atom(6), atom(7)], [bond(0, 1), bond(2, 3)])
        self.counted(pattern([said((6,)), said((7,))]), mol, 4, 4)
        self.counted(pattern([said((6,)), said((7,))], [joined(0, 1)]), mol, 2, 2)

    def test_a_place_is_a_set_of_atoms(self):
        # From one set of four atoms a square can be gone along as a chain in eight ways.
        square = molecule([atom()] * 4, [bond(0, 1), bond(0, 3), bond(1, 2), bond(2, 3)])
        chain = pattern([said()] * 4, [joined(0, 1), joined(1, 2), joined(2, 3)])
        self.counted(chain, square, 8, 1)

    def test_maps_stand_in_order_and_places_by_their_first(self):
        mol = read_molecule(molecule([atom(6), atom(7), atom(6), atom(7)], [bond(0, 1), bond(0, 3), bond(1, 2)]), 1)
        maps = maps_of(read_pattern(pattern([said()] * 2, [joined(0, 1)]), 0), mol)
        self.assertEqual(maps, [[0, 1], [0, 3], [1, 0], [1, 2], [2, 1], [3, 0]])
        self.assertEqual(places_of(maps), [[0, 1], [0, 3], [1, 2]])
        maps = maps_of(read_pattern(pattern([said((7,)), said((6,))], [joined(0, 1)]), 0), mol)
        self.assertEqual(maps, [[1, 0], [1, 2], [3, 0]])
        self.assertEqual(places_of(maps), maps)


class AtomTest(CountTest):
    def one(self, maps, mol, **words):
        self.counted(pattern([said(**words)]), mol, maps, maps)

    def test_named(self):
        mol = molecule([atom(k) for k in (1, 6, 6, 8, 118)])
        self.one(5, mol, named=())
        self.one(2, mol, named=(6,))
        self.one(3, mol, named=(6, 7, 8))
        self.one(2, mol, named=(1, 2, 3, 4, 5, 7, 9, 118))
        self.one(0, mol, named=(5, 7, 117))

    def test_isotope(self):
        mol = molecule([atom(), atom(6, 13), atom(6, 14), atom(6, 500), atom(6, 245)])
        self.one(5, mol, isotope=501)
        self.one(1, mol, isotope=0)
        self.one(1, mol, isotope=13)
        self.one(1, mol, isotope=500)
        self.one(0, mol, isotope=12)
        self.one(0, mol, isotope=1)

    def between(self, word, mol, low, high):
        """The molecule has one atom for each number from low to high."""
        for least in range(low, high + 1):
            for greatest in range(least, high + 1):
                self.one(greatest - least + 1, mol, **{word: (least, greatest)})

    def test_charge(self):
        self.between("charge", molecule([atom(charge=k) for k in range(-4, 5)]), -4, 4)

    def test_hydrogens(self):
        self.between("hydrogens", molecule([atom(hydrogens=k) for k in range(8)]), 0, 7)

    def test_neighbours(self):
        bonds = [bond(1, 4), bond(2, 3, 3), bond(2, 4), bond(3, 4), bond(3, 5), bond(4, 5)]
        mol = molecule([atom(hydrogens=1)] * 6, bonds)
        for bounds, maps in (((0, 0), 1), ((1, 1), 1), ((2, 2), 2), ((3, 3), 1), ((4, 4), 1), ((5, 127), 0),
                             ((0, 1), 2), ((2, 3), 3), ((3, 127), 2), ((0, 127), 6)):
            self.one(maps, mol, neighbours=bounds)

    def test_sum(self):
        mol = molecule([atom(hydrogens=2)] * 5, [bond(0, 1, 3), bond(1, 2, 2), bond(2, 3)])
        for bounds, maps in (((0, 0), 1), ((1, 1), 1), ((2, 2), 0), ((3, 3), 2), ((4, 4), 0), ((5, 5), 1),
                             ((1, 3), 3), ((3, 5), 3), ((6, 381), 0), ((256, 381), 0), ((0, 256), 5), ((0, 381), 5)):
            self.one(maps, mol, total=bounds)

    def test_ring(self):
        # Two rings with a bond between them, and a tail.
        pairs = [(0, 1), (0, 2), (1, 2), (2, 3), (3, 4), (3, 5), (4, 5), (5, 6)]
        mol = molecule([atom()] * 7, [bond(a, b) for a, b in pairs])
        self.one(7, mol, ring=0)
        self.one(6, mol, ring=1)
        self.one(1, mol, ring=2)
        self.one(6, BENZENE, ring=1)
        self.one(0, BENZENE, ring=2)

    def test_an_atom_between_two_rings_is_in_none(self):
        pairs = [(0, 1), (0, 2), (1, 2), (2, 3), (3, 4), (4, 5), (4, 6), (5, 6)]
        mol = molecule([atom(7 if k == 3 else 6) for k in range(7)], [bond(a, b) for a, b in pairs])
        self.one(1, mol, ring=2)
        self.one(1, mol, named=(7,), ring=2)
        self.one(0, mol, named=(7,), ring=1)

    def test_whether_a_hand_is_told(self):
        for hand, either, none in ((0, 1, 1), (1, 1, 0), (2, 1, 0)):
            mol = molecule([atom(15, hand=hand)] + [atom()] * 3, [bond(0, 1), bond(0, 2), bond(0, 3)])
            self.one(either, mol, named=(15,), hand=0)
            self.one(none, mol, named=(15,), hand=3)


class BondTest(CountTest):
    def one(self, mol, maps, **words):
        self.counted(pattern([said()] * 2, [joined(0, 1, **words)]), mol, maps, maps // 2)

    def test_orders_of_fixed_bonds(self):
        mol = molecule([atom()] * 4, [bond(0, 1, 1), bond(1, 2, 2), bond(2, 3, 3)])
        for how in (0, 1):
            for orders in range(1, 8):
                self.one(mol, 2 * bin(orders).count("1"), orders=orders, how=how)

    def test_orders_of_bonds_that_are_not_fixed(self):
        # Orders 1 and 2 in turn.
        for orders, some, each in ((1, 12, 0), (2, 12, 0), (3, 12, 12), (4, 0, 0), (5, 12, 0), (6, 12, 0), (7, 12, 12)):
            self.one(BENZENE, some, orders=orders, how=0)
            self.one(BENZENE, each, orders=orders, how=1)

    def test_orders_1_and_3_without_2(self):
        bonds = [bond(0, 1, 1), bond(0, 2, 2), bond(1, 2, 2), bond(2, 3, 1), bond(3, 4, 2), bond(3, 5, 2), bond(4, 5, 1)]
        mol = molecule([atom()] * 2 + [atom(7), atom(8)] + [atom()] * 2, bonds)
        for orders, some, each in ((1, 1, 0), (2, 0, 0), (3, 1, 0), (4, 1, 0), (5, 1, 1), (6, 1, 0), (7, 1, 1)):
            for how, maps in ((0, some), (1, each)):
                self.counted(pattern([said((7,)), said((8,))], [joined(0, 1, orders, how)]), mol, maps, maps)

    def test_a_square_of_doubles_has_all_three(self):
        mol = molecule([atom()] * 4, [bond(0, 1, 2), bond(0, 3, 2), bond(1, 2, 2), bond(2, 3, 2)])
        for orders in range(1, 8):
            self.one(mol, 8, orders=orders, how=0)
            self.one(mol, 8 if orders == 7 else 0, orders=orders, how=1)

    def test_ring(self):
        pairs = [(0, 1), (0, 2), (1, 2), (2, 3), (3, 4), (3, 5), (4, 5), (5, 6)]
        mol = molecule([atom()] * 7, [bond(a, b) for a, b in pairs])
        self.one(mol, 16, ring=0)
        self.one(mol, 12, ring=1)
        self.one(mol, 4, ring=2)
        self.one(BENZENE, 12, ring=1)
        self.one(BENZENE, 0, ring=2)

    def test_whether_a_side_is_told(self):
        for side, none in ((0, 2), (1, 0), (2, 0)):
            mol = molecule([atom()] * 4, [bond(0, 1), bond(1, 2, 2, side), bond(2, 3)])
            self.one(mol, 2, orders=2, side=0)
            self.one(mol, none, orders=2, side=3)
            self.one(mol, 6, side=0)
            self.one(mol, 4 + none, side=3)


class HandTest(CountTest):
    def star(self, hand, leaves, hydrogens, centre=0):
        """A molecule with the leaves, in this order, around an atom that has the number centre."""
        atoms = [atom(k) for k in leaves]
        atoms.insert(centre, atom(6, hydrogens=hydrogens, hand=hand))
        others = [k for k in range(len(atoms)) if k != centre]
        return molecule(atoms, sorted(bond(min(centre, k), max(centre, k)) for k in others))

    def said_star(self, hand, leaves, centre=0):
        atoms = [said((k,)) for k in leaves]
        atoms.insert(centre, said((6,), hand=hand))
        others = [k for k in range(len(atoms)) if k != centre]
        return pattern(atoms, sorted(joined(min(centre, k), max(centre, k)) for k in others))

    def exchanged(self, leaves, hydrogens):
        """Every order of the leaves in the pattern: an even exchange keeps the hand, an odd one turns it."""
        for order in itertools.permutations(leaves):
            even = sum(a > b for a, b in itertools.combinations(order, 2)) % 2 == 0
            for centre in range(len(leaves) + 1):
                for hand in (1, 2):
                    mol = self.star(hand, leaves, hydrogens, centre)
                    kept = self.said_star(hand if even else 3 - hand, order, len(leaves) - centre)
                    self.counted(kept, mol, 1, 1)
                    turned = self.said_star(3 - hand if even else hand, order, len(leaves) - centre)
                    self.counted(turned, mol, 0, 0)

    def test_three_neighbours_and_a_hydrogen(self):
        self.exchanged((9, 17, 35), 1)

    def test_three_neighbours_and_an_empty_place(self):
        self.exchanged((9, 17, 35), 0)

    def test_four_neighbours(self):
        self.exchanged((9, 17, 35, 53), 0)

    def test_three_in_the_pattern_of_four_in_the_molecule(self):
        # The one left out goes to the front: over none, one, two or three others.
        leaves = (9, 17, 35, 53)
        for k in range(4):
            rest = leaves[:k] + leaves[k + 1:]
            for hand in (1, 2):
                read = hand if k % 2 == 0 else 3 - hand
                mol = self.star(hand, leaves, 0)
                self.counted(self.said_star(read, rest), mol, 1, 1)
                self.counted(self.said_star(3 - read, rest), mol, 0, 0)
                self.counted(self.said_star(3 - read, (rest[1], rest[0], rest[2])), mol, 1, 1)
                self.counted(self.said_star(read, (rest[1], rest[0], rest[2])), mol, 0, 0)

    def test_none_told(self):
        mol = self.star(0, (9, 17, 35), 1)
        for hand, maps in ((0, 1), (1, 0), (2, 0), (3, 1)):
            self.counted(self.said_star(hand, (9, 17, 35)), mol, maps, maps)
        for hand, maps in ((0, 1), (1, 1), (2, 0), (3, 0)):
            self.counted(self.said_star(hand, (9, 17, 35)), self.star(1, (9, 17, 35), 1), maps, maps)

    def test_four_in_the_pattern_need_four(self):
        for hand in (0, 1, 2):
            self.counted(self.said_star(hand, (9, 17, 35, 1)), self.star(1, (9, 17, 35), 1), 0, 0)

    def test_leaves_of_one_element(self):
        # Of the six ways round three go to the left.
        mol = self.star(1, (9, 9, 9), 1)
        for hand, maps in ((0, 6), (1, 3), (2, 3), (3, 0)):
            self.counted(self.said_star(hand, (9, 9, 9)), mol, maps, 1 if maps else 0)
        four = self.star(2, (9, 9, 9, 9), 0)
        for hand, maps in ((0, 24), (1, 12), (2, 12), (3, 0)):
            self.counted(self.said_star(hand, (9, 9, 9, 9)), four, maps, 1 if maps else 0)
            self.counted(self.said_star(hand, (9, 9, 9)), four, maps, 4 if maps else 0)


class SideTest(CountTest):
    def test_one_besides_at_each_end(self):
        for side in (1, 2):
            mol = molecule([atom(9), atom(), atom(), atom(17)], [bond(0, 1), bond(1, 2, 2, side), bond(2, 3)])
            for wanted in (0, 1, 2, 3):
                maps = 1 if wanted in (0, side) else 0
                forward = pattern([said((9,)), said((6,)), said((6,)), said((17,))],
                                  [joined(0, 1), joined(1, 2, side=wanted), joined(2, 3)])
                self.counted(forward, mol, maps, maps)
                backward = pattern([said((6,)), said((17,)), said((9,)), said((6,))],
                                   [joined(0, 1), joined(0, 3, side=wanted), joined(2, 3)])
                self.counted(backward, mol, maps, maps)

    def test_two_besides(self):
        # 9 and 17 at the one end, 35 and 53 at the other; 9 and 35 are the least ones.
        atoms = [atom(9), atom(17), atom(), atom(), atom(35), atom(53)]
        for side in (1, 2):
            bonds = [bond(0, 2), bond(1, 2), bond(2, 3, 2, side), bond(3, 4), bond(3, 5)]
            mol = molecule(atoms, bonds)
            for left, right, others in ((9, 35, 0), (9, 53, 1), (17, 35, 1), (17, 53, 2)):
                read = side if others % 2 == 0 else 3 - side
                for wanted in (1, 2):
                    maps = 1 if wanted == read else 0
                    pat = pattern([said((left,)), said((6,)), said((6,)), said((right,))],
                                  [joined(0, 1), joined(1, 2, side=wanted), joined(2, 3)])
                    self.counted(pat, mol, maps, maps)

    def test_two_besides_in_the_pattern(self):
        # The pattern's least is 53 where the molecule's is 35.
        atoms = [atom(9), atom(), atom(), atom(35), atom(53)]
        mol = molecule(atoms, [bond(0, 1), bond(1, 2, 2, 1), bond(2, 3), bond(2, 4)])
        for first, second, read in ((35, 53, 1), (53, 35, 2)):
            for wanted in (0, 1, 2, 3):
                pat = pattern([said((9,)), said((6,)), said((6,)), said((first,)), said((second,))],
                              [joined(0, 1), joined(1, 2, side=wanted), joined(2, 3), joined(2, 4)])
                maps = 1 if wanted in (0, read) else 0
                self.counted(pat, mol, maps, maps)

    def test_two_of_one_element_besides(self):
        mol = molecule([atom(9), atom(), atom(), atom(35), atom(35)],
                       [bond(0, 1), bond(1, 2, 2, 1), bond(2, 3), bond(2, 4)])
        for wanted, maps in ((0, 2), (1, 1), (2, 1), (3, 0)):
            chain = pattern([said((9,)), said((6,)), said((6,)), said((35,))],
                            [joined(0, 1), joined(1, 2, side=wanted), joined(2, 3)])
            self.counted(chain, mol, maps, maps)
            whole = pattern([said((9,)), said((6,)), said((6,)), said((35,)), said((35,))],
                            [joined(0, 1), joined(1, 2, side=wanted), joined(2, 3), joined(2, 4)])
            self.counted(whole, mol, maps, min(maps, 1))

    def test_least_besides_may_have_any_number(self):
        # The ends are 3 and 0; besides them 2 at 3, and 1 and 4 at 0.
        mol = molecule([atom(), atom(9), atom(17), atom(), atom(35)],
                       [bond(0, 1), bond(0, 3, 2, 2), bond(0, 4), bond(2, 3)])
        for right, read in ((9, 2), (35, 1)):
            for wanted in (1, 2):
                pat = pattern([said((17,)), said((6,)), said((6,)), said((right,))],
                              [joined(0, 1), joined(1, 2, side=wanted), joined(2, 3)])
                maps = 1 if wanted == read else 0
                self.counted(pat, mol, maps, maps)

    def test_none_told(self):
        mol = molecule([atom()] * 4, [bond(0, 1), bond(1, 2, 2), bond(2, 3)])
        for wanted, maps in ((0, 2), (1, 0), (2, 0), (3, 2)):
            pat = pattern([said()] * 4, [joined(0, 1), joined(1, 2, side=wanted), joined(2, 3)])
            self.counted(pat, mol, maps, maps // 2)


class AgainstTrialTest(CountTest):
    """Every row of images tried, on molecules and patterns by lot."""

    def test_counts_and_maps(self):
        lot = random.Random(41)
        standing = 0
        for k in range(60):
            mol = some_molecule(lot, lot.randint(1, 6), 7)
            tried = Tried(mol)
            for j in range(8):
                pat = some_pattern(lot, mol)
                maps = tried.maps(pat)
                self.check(pat, mol, maps)
                standing += 1 if maps else 0
        self.assertGreater(standing, 120)

    def test_hands_and_sides(self):
        lot = random.Random(42)
        turned = {"hand": [0, 0], "side": [0, 0]}
        for k in range(200):
            mol = turned_molecule(lot)
            tried = Tried(mol)
            for j in range(5):
                pat = some_pattern(lot, mol)
                pat = Pattern([said(x.named, hand=x.hand) for x in pat.atoms],
                              [joined(x.a, x.b, side=x.side) for x in pat.bonds])
                maps = tried.maps(pat)
                self.check(pat, mol, maps)
                if any(x.hand in (1, 2) for x in pat.atoms):
                    turned["hand"][bool(maps)] += 1
                if any(x.side in (1, 2) for x in pat.bonds):
                    turned["side"][bool(maps)] += 1
        self.assertGreater(min(turned["hand"] + turned["side"]), 10)

    def check(self, pat, mol, maps):
        places = {frozenset(row) for row in maps}
        self.counted(pattern_form(pat), molecule_form(mol), len(maps), len(places))
        found = maps_of(read_pattern(pattern_form(pat), 0), read_molecule(molecule_form(mol), 1))
        self.assertEqual(found, [list(row) for row in maps])

    def test_redrawn(self):
        lot = random.Random(43)
        several = 0
        for k in range(80):
            mol = some_molecule(lot, lot.randint(3, 6), 8)
            rows = redrawings(mol)
            several += len(rows) > 1
            for j in range(4):
                pat = pattern_form(some_pattern(lot, mol))
                other = redrawn(mol, lot.choice(rows))
                self.assertEqual(ask(self, count, pat, molecule_form(other)), count(pat, molecule_form(mol)))
        self.assertGreater(several, 10)

    def test_renumbered(self):
        lot = random.Random(44)
        for k in range(60):
            mol = turned_molecule(lot) if k % 2 else some_molecule(lot, lot.randint(2, 8), 8)
            row = list(range(len(mol.atoms)))
            lot.shuffle(row)
            other = molecule_form(renumbered(mol, row))
            for j in range(4):
                form = pattern_form(some_pattern(lot, mol))
                self.assertEqual(ask(self, count, form, other), count(form, molecule_form(mol)))
                pat = read_pattern(form, 0)
                carried = sorted([row[x] for x in found] for found in maps_of(pat, read_molecule(molecule_form(mol), 1)))
                self.assertEqual(maps_of(pat, read_molecule(other, 1)), carried)


class SameTest(CountTest):
    """A molecule's own pattern stands in another of as many atoms just if they're the same."""

    def own_in(self, one, other):
        own_form = row_of(self, own(molecule_form(one)))
        return ask(self, count, own_form, molecule_form(other))

    def check(self, one, other):
        rows = samenesses(one, other)
        self.assertEqual(self.own_in(one, other), [0, len(rows), 1 if rows else 0])
        return bool(rows)

    def test_itself_mirrored_and_renumbered(self):
        lot = random.Random(51)
        mirrors = [0, 0]
        for k in range(120):
            mol = five_atoms(lot)
            self.assertTrue(self.check(mol, mol))
            row = list(range(len(mol.atoms)))
            lot.shuffle(row)
            self.assertTrue(self.check(mol, renumbered(mol, row)))
            if any(x.hand for x in mol.atoms):
                mirrors[self.check(mol, renumbered(mirrored(mol), row))] += 1
        self.assertGreater(min(mirrors), 5)

    def test_redrawn(self):
        lot = random.Random(52)
        for k in range(40):
            mol = some_molecule(lot, lot.randint(3, 5), 7, 0, (6,))
            for orders in redrawings(mol)[:6]:
                self.assertTrue(self.check(mol, redrawn(mol, orders)))

    def test_another(self):
        lot = random.Random(53)
        found = [0, 0]
        for k in range(150):
            mol = five_atoms(lot)
            found[self.check(mol, changed(lot, mol))] += 1
        self.assertGreater(min(found), 10)

    def test_mirror(self):
        leaves = [atom(k) for k in (9, 17, 35, 53)]
        bonds = [bond(0, k) for k in (1, 2, 3, 4)]
        one = Molecule([atom(hand=1)] + leaves, bonds)
        other = Molecule([atom(hand=2)] + leaves, bonds)
        self.assertEqual(self.own_in(one, one), [0, 1, 1])
        self.assertEqual(self.own_in(one, other), [0, 0, 0])
        self.assertEqual(self.own_in(other, one), [0, 0, 0])
        alike = Molecule([atom(hand=1)] + leaves[:3] + leaves[:1], bonds)
        self.assertEqual(self.own_in(alike, mirrored(alike)), [0, 1, 1])

    def test_sides(self):
        def chain(side):
            return Molecule([atom()] * 4, [bond(0, 1), bond(1, 2, 2, side), bond(2, 3)])

        for side in (0, 1, 2):
            for other in (0, 1, 2):
                self.assertEqual(self.own_in(chain(side), chain(other)), [0, 2, 1] if side == other else [0, 0, 0])

    def test_fewer_bonds(self):
        square = Molecule([atom()] * 4, [bond(0, 1), bond(0, 3), bond(1, 2), bond(2, 3)])
        chain = Molecule([atom()] * 4, [bond(0, 1, 1), bond(1, 2, 1), bond(2, 3, 1)])
        self.assertEqual(self.own_in(chain, square), [0, 0, 0])
        self.assertEqual(self.own_in(square, chain), [0, 0, 0])


def changed(lot, mol):
    """The molecule, renumbered, with one thing in it otherwise, or perhaps not."""
    row = list(range(len(mol.atoms)))
    lot.shuffle(row)
    mol = renumbered(mol, row)
    choice = lot.choice(("turns", "turns", "atom", "mirror"))
    if choice == "turns":
        return with_turns(lot, mol)
    if choice == "mirror":
        return mirrored(mol)
    k = lot.randrange(len(mol.atoms))
    words = lot.choice(({"element": 7}, {"isotope": 13}, {"charge": 1}, {"hydrogens": 0}))
    atoms = list(mol.atoms)
    atoms[k] = atoms[k]._replace(**words)
    return Molecule(atoms, mol.bonds)


class RefusalTest(CountTest):
    def test_faulty_forms(self):
        check_refusals(self, count)


if __name__ == "__main__":
    unittest.main()
