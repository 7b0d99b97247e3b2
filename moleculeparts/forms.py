"""Forms: rows of bytes that are read from front to back, up to their first fault."""

from moleculeparts.graphs import Graph

WRONG_MARK = 1
OUT_OF_BOUNDS = 2
NOT_BEHIND = 3
HAND_MISPLACED = 4
ENDS_EARLY = 5
SIDE_MISPLACED = 6
LEFT_OVER = 7

MOST_ATOMS = 128
MOST_BONDS = 192
MOST_ELEMENT = 118
MOST_CHARGE = 8
MOST_HYDROGENS = 7


class FormFault(Exception):
    def __init__(self, which, rule, place):
        self.which = which
        self.rule = rule
        self.place = place


class Reader:
    def __init__(self, form, which):
        self.form = form
        self.which = which
        self.place = 0
        self.hand_places = []
        self.side_places = []

    def fault(self, rule, place):
        raise FormFault(self.which, rule, place)

    def take_number(self, size):
        if self.place + size > len(self.form):
            self.fault(ENDS_EARLY, len(self.form))
        number = 0
        for k in range(size):
            number += self.form[self.place + k] << (8 * k)
        self.place += size
        return number

    def take_between(self, size, least, greatest):
        start = self.place
        number = self.take_number(size)
        if number < least or number > greatest:
            self.fault(OUT_OF_BOUNDS, start)
        return number

    def take_range(self, size, most):
        least = self.take_between(size, 0, most)
        greatest = self.take_between(size, least, most)
        return (least, greatest)

    def take_mark(self, mark):
        for byte in mark:
            if self.take_number(1) != byte:
                self.fault(WRONG_MARK, self.place - 1)

    def take_atoms(self, n, take_atom):
        atoms = []
        for k in range(n):
            atoms.append(take_atom(self))
            # In both forms the hand is the last byte of an atom.
            self.hand_places.append(self.place - 1)
        return atoms

    def take_pair(self, n, before):
        start = self.place
        a = self.take_between(1, 0, n - 1)
        b = self.take_between(1, a + 1, n - 1)
        if (a, b) <= before:
            self.fault(NOT_BEHIND, start)
        return (a, b)

    def take_bonds(self, n, m, take_bond):
        bonds = []
        before = (-1, -1)
        for k in range(m):
            before = self.take_pair(n, before)
            bonds.append(take_bond(self, before))
            # In both forms the side is the last byte of a bond.
            self.side_places.append(self.place - 1)
        return bonds

    def take_end(self):
        if self.place < len(self.form):
            self.fault(LEFT_OVER, self.place)


# Both forms have this frame; they differ in what they tell of an atom and of a bond.
def take_graph(reader, mark, take_atom, take_bond):
    reader.take_mark(mark)
    n = reader.take_between(1, 0, MOST_ATOMS)
    m = reader.take_between(1, 0, MOST_BONDS)
    atoms = reader.take_atoms(n, take_atom)
    bonds = reader.take_bonds(n, m, take_bond)
    reader.take_end()
    return Graph(atoms, bonds)
