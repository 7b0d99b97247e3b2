"""Molecules: what their form tells, and where hands and sides may be."""

from moleculeparts.forms import HAND_MISPLACED, MOST_CHARGE, MOST_ELEMENT, MOST_HYDROGENS, SIDE_MISPLACED
from moleculeparts.forms import Reader, take_graph
from moleculeparts.graphs import Graph
from moleculeparts.redrawings import GREATEST_ORDER, LEAST_ORDER, order_bit, order_sums, redrawn_orders

MARK = (70, 75, 77, 49)
MOST_ISOTOPE = 500
MOST_HAND = 2
MOST_SIDE = 2

# Stands in an atom's row of four for its hydrogen or for the empty place, whichever it has; never for both.
NO_ATOM = -1


class Atom:
    def __init__(self, element, isotope, charge, hydrogens, hand):
        self.element = element
        self.isotope = isotope
        # 4 is added, as in the forms: charges are only compared with one another.
        self.charge = charge
        self.hydrogens = hydrogens
        self.hand = hand


class Bond:
    def __init__(self, pair, order, side):
        self.a = pair[0]
        self.b = pair[1]
        self.order = order
        self.side = side


class Molecule(Graph):
    def __init__(self, atoms, bonds):
        Graph.__init__(self, atoms, bonds)
        self.sums = order_sums(len(atoms), bonds)
        # Of each bond the orders that it has in some redrawing, as bits.
        self.orders = redrawn_orders(self.sums, bonds)
        self.bond_numbers = pair_numbers(bonds)

    def row_around(self, atom):
        row = self.neighbours[atom]
        return row if len(row) == 4 else [NO_ATOM] + row

    # As bits, over all redrawings. A bond has one at least: none tells that the two aren't joined.
    def orders_between(self, atom, other):
        k = self.bond_numbers.get((atom, other))
        return 0 if k is None else self.orders[k]


def pair_numbers(bonds):
    numbers = {}
    for k, bond in enumerate(bonds):
        numbers[(bond.a, bond.b)] = k
        numbers[(bond.b, bond.a)] = k
    return numbers


def read_molecule(form, which):
    reader = Reader(form, which)
    graph = take_graph(reader, MARK, take_atom, take_bond)
    molecule = Molecule(graph.atoms, graph.bonds)
    for k, atom in enumerate(molecule.atoms):
        if atom.hand != 0 and not may_have_hand(molecule, k):
            reader.fault(HAND_MISPLACED, reader.hand_places[k])
    for k, bond in enumerate(molecule.bonds):
        if bond.side != 0 and not may_have_side(molecule, k):
            reader.fault(SIDE_MISPLACED, reader.side_places[k])
    return molecule


def take_atom(reader):
    element = reader.take_between(1, 1, MOST_ELEMENT)
    isotope = reader.take_between(2, 0, MOST_ISOTOPE)
    charge = reader.take_between(1, 0, MOST_CHARGE)
    hydrogens = reader.take_between(1, 0, MOST_HYDROGENS)
    hand = reader.take_between(1, 0, MOST_HAND)
    return Atom(element, isotope, charge, hydrogens, hand)


def take_bond(reader, pair):
    order = reader.take_between(1, LEAST_ORDER, GREATEST_ORDER)
    side = reader.take_between(1, 0, MOST_SIDE)
    return Bond(pair, order, side)


def may_have_hand(molecule, k):
    neighbours = len(molecule.neighbours[k])
    hydrogens = molecule.atoms[k].hydrogens
    # With three neighbours at least, four in all leave room for one hydrogen at most.
    return neighbours in (3, 4) and neighbours + hydrogens <= 4


def may_have_side(molecule, k):
    bond = molecule.bonds[k]
    # The one order of a fixed bond is the one that it has.
    fixed_double = molecule.orders[k] == order_bit(2)
    return fixed_double and end_takes_side(molecule, bond.a, bond.b) and end_takes_side(molecule, bond.b, bond.a)


def end_takes_side(molecule, end, other):
    others = len(molecule.besides(end, other))
    return others in (1, 2) and others + molecule.atoms[end].hydrogens <= 2
