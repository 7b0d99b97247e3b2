"""Maps of a pattern into a molecule, and the places where it stands."""

from moleculeparts.patterns import ALL_REDRAWINGS, ANY_ISOTOPE, EITHER, NONE_TOLD, turns
from moleculeparts.rings import NO_RING, least_through_atoms, least_through_bonds

IN_RING = 1


class Search:
    def __init__(self, pattern, molecule):
        self.pattern = pattern
        self.molecule = molecule
        self.bond_rings = least_through_bonds(molecule)
        self.atom_rings = least_through_atoms(molecule, self.bond_rings)

    def atom_fits(self, said, k):
        atom = self.molecule.atoms[k]
        if len(said.named) > 0 and atom.element not in said.named:
            return False
        if said.isotope != ANY_ISOTOPE and said.isotope != atom.isotope:
            return False
        if not (within(atom.charge, said.charge) and within(atom.hydrogens, said.hydrogens)):
            return False
        if not within(len(self.molecule.neighbours[k]), said.neighbours):
            return False
        if not within(self.molecule.sums[k], said.total):
            return False
        return ring_fits(said.ring, self.atom_rings[k]) and is_told_as_said(said.hand, atom.hand)

    def bond_fits(self, said, k):
        if not orders_fit(said, self.molecule.orders[k]):
            return False
        return ring_fits(said.ring, self.bond_rings[k]) and is_told_as_said(said.side, self.molecule.bonds[k].side)

    def images_of(self, said):
        return [k for k in range(len(self.molecule.atoms)) if self.atom_fits(said, k)]

    # Each row takes its next images rising: rows that stand in order stay so.
    def longer_rows(self, rows, images, bonds_back):
        longer = []
        for row in rows:
            for image in images:
                if image not in row and self.joined_as_said(row, image, bonds_back):
                    longer.append(row + [image])
        return longer

    def joined_as_said(self, row, image, bonds_back):
        for said in bonds_back:
            k = self.molecule.bond_numbers.get((row[said.a], image))
            if k is None or not self.bond_fits(said, k):
                return False
        return True

    def hands_fit(self, row):
        for k, said in enumerate(self.pattern.atoms):
            if turns(said.hand) and self.hand_read(row, k) != said.hand:
                return False
        return True

    def hand_read(self, row, k):
        around = self.molecule.row_around(row[k])
        images = [row[atom] for atom in self.pattern.neighbours[k]]
        seen = [atom for atom in around if atom not in images] + images
        return read_as(self.molecule.atoms[row[k]].hand, is_odd_exchange(around, seen))

    def sides_fit(self, row):
        for said in self.pattern.bonds:
            if turns(said.side) and self.side_read(row, said) != said.side:
                return False
        return True

    def side_read(self, row, said):
        k = self.molecule.bond_numbers[(row[said.a], row[said.b])]
        at_a = self.keeps_least(row, said.a, said.b)
        at_b = self.keeps_least(row, said.b, said.a)
        return read_as(self.molecule.bonds[k].side, at_a != at_b)

    def keeps_least(self, row, end, other):
        least_said = self.pattern.besides(end, other)[0]
        return row[least_said] == self.molecule.besides(row[end], row[other])[0]


def within(number, bounds):
    return bounds[0] <= number <= bounds[1]


def ring_fits(said, least_ring):
    return said == EITHER or (least_ring != NO_RING) == (said == IN_RING)


# Which of the two hands or sides it is depends on the whole map; whether there is one doesn't.
def is_told_as_said(said, told):
    return said == EITHER or (told == 0) == (said == NONE_TOLD)


def orders_fit(said, drawn):
    if said.how == ALL_REDRAWINGS:
        return (drawn | said.orders) == said.orders
    return (drawn & said.orders) != 0


def read_as(hand_or_side, other):
    return 3 - hand_or_side if other else hand_or_side


def is_odd_exchange(row, exchanged):
    places = [row.index(atom) for atom in exchanged]
    crossings = 0
    for k, place in enumerate(places):
        crossings += len([before for before in places[:k] if before > place])
    return crossings % 2 == 1


def maps_of(pattern, molecule):
    search = Search(pattern, molecule)
    rows = [[]]
    for k, said in enumerate(pattern.atoms):
        bonds_back = [bond for bond in pattern.bonds if bond.b == k]
        rows = search.longer_rows(rows, search.images_of(said), bonds_back)
    return [row for row in rows if search.hands_fit(row) and search.sides_fit(row)]


# Of each place its first map: the maps stand in order, and a dict keeps what came first.
def places_of(maps):
    first_maps = {}
    for row in maps:
        first_maps.setdefault(tuple(sorted(row)), row)
    return list(first_maps.values())


# The atoms that some place has are those that some map has.
def covered_marks(maps, n):
    marks = [0] * n
    for row in maps:
        for image in row:
            marks[image] = 1
    return marks
