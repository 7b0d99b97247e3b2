"""Atoms and bonds, of a molecule or of a pattern, and who is joined to whom."""


class Graph:
    def __init__(self, atoms, bonds):
        self.atoms = atoms
        self.bonds = bonds
        self.neighbours = neighbour_rows(len(atoms), bonds)

    def besides(self, end, other):
        return [atom for atom in self.neighbours[end] if atom != other]


def neighbour_rows(n, bonds):
    rows = [[] for k in range(n)]
    # The bonds rise by a, then by b: each row comes out rising, and its users rely on that.
    for bond in bonds:
        rows[bond.a].append(bond.b)
        rows[bond.b].append(bond.a)
    return rows
