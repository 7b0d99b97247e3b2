"""The greatest part that two molecules have in common: atoms of the one, each with a partner among the other's."""

NO_PARTNER = -1


# Parts are found atom by atom. They're kept by the atoms of the one that they have (a rising tuple): the rows of
# partners that go with these, a row having NO_PARTNER for each atom that isn't among them.
def greatest_part(one, other):
    found = {(): [[NO_PARTNER] * len(one.atoms)]}
    longer = parts_with_one_more(one, other, found)
    while longer:
        found = longer
        longer = parts_with_one_more(one, other, found)
    return first_row(found)


# The same atoms have the same parts whichever of them comes last, so they're asked for once.
def parts_with_one_more(one, other, found):
    asked = {}
    longer = {}
    for atoms in found:
        for atom in atoms_beside(one, atoms):
            more = tuple(sorted(atoms + (atom,)))
            if more not in asked:
                asked[more] = True
                rows = rows_with_one_more(one, other, atoms, found[atoms], atom)
                if rows:
                    longer[more] = rows
    return longer


# Each atom but the first is beside one before it: so, bond by bond, each comes to each.
def atoms_beside(molecule, atoms):
    if len(atoms) == 0:
        return list(range(len(molecule.atoms)))
    beside = {}
    for atom in atoms:
        for neighbour in molecule.neighbours[atom]:
            if neighbour not in atoms:
                beside[neighbour] = True
    return list(beside)


def rows_with_one_more(one, other, atoms, rows, atom):
    alike = [k for k in range(len(other.atoms)) if are_alike(one.atoms[atom], other.atoms[k])]
    longer = []
    for row in rows:
        for partner in alike:
            if partner not in row and are_joined_alike(one, other, atoms, row, atom, partner):
                with_partner = list(row)
                with_partner[atom] = partner
                longer.append(with_partner)
    return longer


def are_alike(atom, partner):
    return atom.element == partner.element and atom.isotope == partner.isotope and atom.charge == partner.charge


def are_joined_alike(one, other, atoms, row, atom, partner):
    for member in atoms:
        if one.orders_between(member, atom) != other.orders_between(row[member], partner):
            return False
    return True


def first_row(found):
    rows = []
    for atoms in found:
        for partners in found[atoms]:
            rows.append(atoms_with_partners(atoms, partners))
    return min(rows)


def atoms_with_partners(atoms, partners):
    row = []
    for atom in atoms:
        row.extend([atom, partners[atom]])
    return row
