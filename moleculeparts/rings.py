"""Rings: which bonds and atoms of a molecule are in one."""


# A ring goes through a bond just if its ends are still tied together without it.
def bond_in_ring(molecule, bond):
    reached = {bond.a: True}
    waiting = [bond.a]
    while waiting:
        atom = waiting.pop()
        for other in molecule.neighbours[atom]:
            is_bond_itself = atom == bond.a and other == bond.b
            if other not in reached and not is_bond_itself:
                reached[other] = True
                waiting.append(other)
    return bond.b in reached


def bonds_in_rings(molecule):
    return [bond_in_ring(molecule, bond) for bond in molecule.bonds]


# A ring through an atom goes through two of its bonds.
def atoms_in_rings(molecule, ringed_bonds):
    ringed = [False] * len(molecule.atoms)
    for k, bond in enumerate(molecule.bonds):
        if ringed_bonds[k]:
            ringed[bond.a] = True
            ringed[bond.b] = True
    return ringed
