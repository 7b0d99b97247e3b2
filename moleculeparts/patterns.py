"""Patterns: what they say of atoms and bonds, their form, and those that molecules give."""

from moleculeparts.forms import HAND_MISPLACED, MOST_CHARGE, MOST_ELEMENT, MOST_HYDROGENS, SIDE_MISPLACED
from moleculeparts.forms import Reader, take_graph
from moleculeparts.graphs import Graph

MARK = (70, 75, 80, 49)
MOST_NAMED = 8
ANY_ISOTOPE = 501
MOST_NEIGHBOURS = 127
MOST_SUM = 381
MOST_RING = 2
ANY_ORDERS = 7
SOME_REDRAWING = 0
ALL_REDRAWINGS = 1

EITHER = 0
NONE_TOLD = 3


# Charge (4 added, as in the forms), hydrogens, neighbours and total (the sum) are pairs: the least, the greatest.
class SaidOfAtom:
    def __init__(self, named, isotope, charge, hydrogens, neighbours, total, ring, hand):
        self.named = named
        self.isotope = isotope
        self.charge = charge
        self.hydrogens = hydrogens
        self.neighbours = neighbours
        self.total = total
        self.ring = ring
        self.hand = hand


class SaidOfBond:
    def __init__(self, pair, orders, how, ring, side):
        self.a = pair[0]
        self.b = pair[1]
        self.orders = orders
        self.how = how
        self.ring = ring
        self.side = side


def read_pattern(form, which):
    reader = Reader(form, which)
    pattern = take_graph(reader, MARK, take_said_of_atom, take_said_of_bond)
    for k, atom in enumerate(pattern.atoms):
        if turns(atom.hand) and len(pattern.neighbours[k]) not in (3, 4):
            reader.fault(HAND_MISPLACED, reader.hand_places[k])
    for k, bond in enumerate(pattern.bonds):
        if turns(bond.side) and not ends_take_side(pattern, bond):
            reader.fault(SIDE_MISPLACED, reader.side_places[k])
    return pattern


def turns(hand_or_side):
    return hand_or_side in (1, 2)


def ends_take_side(pattern, bond):
    at_a = len(pattern.besides(bond.a, bond.b))
    at_b = len(pattern.besides(bond.b, bond.a))
    return at_a in (1, 2) and at_b in (1, 2)


def take_said_of_atom(reader):
    named = take_named(reader)
    isotope = reader.take_between(2, 0, ANY_ISOTOPE)
    charge = reader.take_range(1, MOST_CHARGE)
    hydrogens = reader.take_range(1, MOST_HYDROGENS)
    neighbours = reader.take_range(1, MOST_NEIGHBOURS)
    total = reader.take_range(2, MOST_SUM)
    ring = reader.take_between(1, 0, MOST_RING)
    hand = reader.take_between(1, 0, NONE_TOLD)
    return SaidOfAtom(named, isotope, charge, hydrogens, neighbours, total, ring, hand)


def take_named(reader):
    named = []
    before = 0
    for k in range(reader.take_between(1, 0, MOST_NAMED)):
        before = reader.take_between(1, before + 1, MOST_ELEMENT)
        named.append(before)
    return named


def take_said_of_bond(reader, pair):
    orders = reader.take_between(1, 1, ANY_ORDERS)
    how = reader.take_between(1, 0, ALL_REDRAWINGS)
    ring = reader.take_between(1, 0, MOST_RING)
    side = reader.take_between(1, 0, NONE_TOLD)
    return SaidOfBond(pair, orders, how, ring, side)


def pattern_form(pattern):
    form = list(MARK) + [len(pattern.atoms), len(pattern.bonds)]
    for atom in pattern.atoms:
        form.extend(atom_bytes(atom))
    for bond in pattern.bonds:
        form.extend([bond.a, bond.b, bond.orders, bond.how, bond.ring, bond.side])
    return form


def atom_bytes(atom):
    row = [len(atom.named)] + atom.named + two_bytes(atom.isotope)
    row.extend(list(atom.charge) + list(atom.hydrogens) + list(atom.neighbours))
    row.extend(two_bytes(atom.total[0]) + two_bytes(atom.total[1]))
    return row + [atom.ring, atom.hand]


def two_bytes(number):
    return [number % 256, number // 256]


def own_pattern(molecule):
    atoms = [said_of_itself(molecule, k) for k in range(len(molecule.atoms))]
    bonds = []
    for bond in molecule.bonds:
        bonds.append(SaidOfBond((bond.a, bond.b), ANY_ORDERS, SOME_REDRAWING, EITHER, as_told(bond.side)))
    return Graph(atoms, bonds)


def said_of_itself(molecule, k):
    atom = molecule.atoms[k]
    charge = just(atom.charge)
    hydrogens = just(atom.hydrogens)
    neighbours = just(len(molecule.neighbours[k]))
    total = just(molecule.sums[k])
    return SaidOfAtom([atom.element], atom.isotope, charge, hydrogens, neighbours, total, EITHER, as_told(atom.hand))


def just(number):
    return (number, number)


# A molecule's hand or side 0 tells none; in a pattern 0 would let any be.
def as_told(hand_or_side):
    return NONE_TOLD if hand_or_side == 0 else hand_or_side


def cut_pattern(molecule, atoms):
    numbers = {}
    for k, atom in enumerate(atoms):
        numbers[atom] = k
    bonds = []
    for k, bond in enumerate(molecule.bonds):
        if bond.a in numbers and bond.b in numbers:
            pair = (numbers[bond.a], numbers[bond.b])
            bonds.append(SaidOfBond(pair, molecule.orders[k], ALL_REDRAWINGS, EITHER, EITHER))
    return Graph([said_of_element(molecule.atoms[atom].element) for atom in atoms], bonds)


def said_of_element(element):
    charge = (0, MOST_CHARGE)
    hydrogens = (0, MOST_HYDROGENS)
    neighbours = (0, MOST_NEIGHBOURS)
    total = (0, MOST_SUM)
    return SaidOfAtom([element], ANY_ISOTOPE, charge, hydrogens, neighbours, total, EITHER, EITHER)
