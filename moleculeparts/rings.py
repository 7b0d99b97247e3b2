"""Rings: the least ones through bonds and atoms, a molecule's short rings, and the lengths of a least basis."""

LEAST_LENGTH = 3
NO_RING = 0


def least_through_bonds(molecule):
    return [least_through_bond(molecule, bond) for bond in molecule.bonds]


# The least ring through a bond goes the shortest other way from its one end to its other. Atoms wait in the order
# in which they're reached: so each is reached by as few steps as can be.
def least_through_bond(molecule, bond):
    steps = {bond.a: 0}
    waiting = [bond.a]
    while waiting:
        atom = waiting.pop(0)
        for other in molecule.neighbours[atom]:
            is_bond_itself = atom == bond.a and other == bond.b
            if other not in steps and not is_bond_itself:
                steps[other] = steps[atom] + 1
                waiting.append(other)
    return steps[bond.b] + 1 if bond.b in steps else NO_RING


# A ring through an atom goes through two of its bonds: the least one through it is the least through one of these.
def least_through_atoms(molecule, through_bonds):
    lengths = []
    for atom in range(len(molecule.atoms)):
        numbers = [molecule.bond_numbers[(atom, other)] for other in molecule.neighbours[atom]]
        through_atom = [through_bonds[k] for k in numbers if through_bonds[k] != NO_RING]
        lengths.append(min(through_atom, default=NO_RING))
    return lengths


# Sets of bonds are whole numbers, a bit for each bond: two sets' sum is what stands in just one of them, so their ^.
class Basis:
    def __init__(self):
        self.kept = []
        self.lengths = []

    # Of the two the lesser hasn't the highest bond of what is kept. Nor has anything kept behind that, since it
    # went through here itself: the bond doesn't come back, and once through leaves nothing just of a sum.
    def left_of(self, bonds):
        left = bonds
        for row in self.kept:
            left = min(left, left ^ row)
        return left

    def has_sum(self, bonds):
        return self.left_of(bonds) == 0

    # If rings come by rising lengths, those that are no sums of the ones before make a least basis.
    def take_ring(self, bonds, length):
        left = self.left_of(bonds)
        if left != 0:
            self.kept.append(left)
            self.lengths.append(length)


def least_basis_lengths(molecule):
    basis = Basis()
    for rings in rings_by_length(molecule):
        for ring in rings:
            basis.take_ring(bonds_along(molecule, ring), len(ring))
    return basis.lengths


# Rings of one length are all asked before one of them is taken: they're to be no sums of shorter ones alone.
def short_rings(molecule):
    basis = Basis()
    found = []
    for rings in rings_by_length(molecule):
        short = [ring for ring in rings if not basis.has_sum(bonds_along(molecule, ring))]
        for ring in short:
            basis.take_ring(bonds_along(molecule, ring), len(ring))
        found.extend(short)
    return found


# A list for each length from 1 on: the rings of that length, in the order of their rows.
def rings_by_length(molecule):
    lists = []
    paths = [[atom] for atom in range(len(molecule.atoms))]
    while paths:
        lists.append([path for path in paths if is_ring(molecule, path)])
        paths = longer_paths(molecule, paths)
    return lists


# A path begins with its least atom, as a ring's row does, and takes its next atoms rising: paths that stand in
# order stay so.
def longer_paths(molecule, paths):
    longer = []
    for path in paths:
        for atom in molecule.neighbours[path[-1]]:
            if atom > path[0] and atom not in path:
                longer.append(path + [atom])
    return longer


# Each ring is come upon both ways round; its row is the one that goes on to the lesser atom.
def is_ring(molecule, path):
    if len(path) < LEAST_LENGTH or path[1] > path[-1]:
        return False
    return path[0] in molecule.neighbours[path[-1]]


def bonds_along(molecule, ring):
    bonds = 0
    for k, atom in enumerate(ring):
        # Ahead of the first stands the last: the bond that closes the ring.
        bonds = bonds | (1 << molecule.bond_numbers[(ring[k - 1], atom)])
    return bonds
