"""What the tests share: forms put together from words, and the document's sentences tried out one by one."""

import copy
import itertools
from collections import namedtuple

Atom = namedtuple("Atom", "element isotope charge hydrogens hand")
Bond = namedtuple("Bond", "a b order side")
Molecule = namedtuple("Molecule", "atoms bonds")
AtomSaid = namedtuple("AtomSaid", "named isotope charge hydrogens neighbours total ring hand")
BondSaid = namedtuple("BondSaid", "a b orders how ring side")
Pattern = namedtuple("Pattern", "atoms bonds")

MOLECULE_MARK = [70, 75, 77, 49]
PATTERN_MARK = [70, 75, 80, 49]


def atom(element=6, isotope=0, charge=0, hydrogens=0, hand=0):
    return Atom(element, isotope, charge, hydrogens, hand)


def bond(a, b, order=1, side=0):
    return Bond(a, b, order, side)


def said(named=(), isotope=501, charge=(-4, 4), hydrogens=(0, 7), neighbours=(0, 127), total=(0, 381), ring=0, hand=0):
    return AtomSaid(tuple(named), isotope, charge, hydrogens, neighbours, total, ring, hand)


def joined(a, b, orders=7, how=0, ring=0, side=0):
    return BondSaid(a, b, orders, how, ring, side)


def low_high(number):
    return [number % 256, number // 256]


def molecule_form(molecule):
    form = MOLECULE_MARK + [len(molecule.atoms), len(molecule.bonds)]
    for x in molecule.atoms:
        form = form + [x.element] + low_high(x.isotope) + [x.charge + 4, x.hydrogens, x.hand]
    for x in molecule.bonds:
        form = form + [x.a, x.b, x.order, x.side]
    return form


def atom_said_bytes(x):
    row = [len(x.named)] + list(x.named) + low_high(x.isotope) + [x.charge[0] + 4, x.charge[1] + 4]
    row = row + list(x.hydrogens) + list(x.neighbours) + low_high(x.total[0]) + low_high(x.total[1])
    return row + [x.ring, x.hand]


def pattern_form(pattern):
    form = PATTERN_MARK + [len(pattern.atoms), len(pattern.bonds)]
    for x in pattern.atoms:
        form = form + atom_said_bytes(x)
    for x in pattern.bonds:
        form = form + [x.a, x.b, x.orders, x.how, x.ring, x.side]
    return form


def molecule(atoms, bonds=()):
    return molecule_form(Molecule(list(atoms), list(bonds)))


def pattern(atoms, bonds=()):
    return pattern_form(Pattern(list(atoms), list(bonds)))


def shape(n, pairs):
    """Atoms of carbon, and single bonds between these pairs, in whatever order they're told."""
    return Molecule([atom()] * n, [bond(a, b) for a, b in sorted(tuple(sorted(pair)) for pair in pairs)])


def round_pairs(*atoms):
    """The bonds of a ring through these atoms in turn."""
    return [(atoms[k - 1], atoms[k]) for k in range(len(atoms))]


def ask(test, call, *arguments):
    """Call twice: the second answer is the first, and what was handed in is as it was."""
    before = copy.deepcopy(arguments)
    answer = call(*arguments)
    test.assertEqual(arguments, before)
    test.assertIs(list, type(answer))
    test.assertEqual({int}, {type(x) for x in answer})
    kept = list(answer)
    answer.clear()
    test.assertEqual(call(*arguments), kept)
    test.assertEqual(arguments, before)
    return kept


def row_of(test, answer):
    test.assertEqual(answer[0], 0)
    test.assertEqual(answer[1], len(answer) - 2)
    return answer[2:]


def rows_told(test, call, *forms):
    """The rows that the call tells for k from 0 on, as far as there are more; behind them it answers -2 alone."""
    rows = []
    while True:
        answer = ask(test, call, len(rows), *forms)
        if answer == [-2]:
            break
        rows.append(row_of(test, answer))
    for k in (len(rows) + 1, len(rows) + 256, 65535, 2 ** 31, 2 ** 32 - 1):
        test.assertEqual(ask(test, call, k, *forms), [-2])
    return rows


A_PATTERN = pattern([said((6,)), said()], [joined(0, 1)])
A_MOLECULE = molecule([atom(), atom(7)], [bond(0, 1)])

# Of each fault one form at least, with its rule and place.
FAULTY_PATTERNS = (
    ([], 5, 0), ([70, 76], 1, 1), (A_PATTERN[:-1], 5, len(A_PATTERN) - 1), (A_PATTERN + [1], 7, len(A_PATTERN)),
    (pattern([said((6, 6))]), 2, 8), (pattern([said()] * 3, [joined(0, 2), joined(0, 1)]), 3, 57),
    (pattern([said(), said(hand=2)]), 4, 35), (pattern([said()] * 2, [joined(0, 1, side=2)]), 6, 41),
    (A_MOLECULE, 1, 2),
)
FAULTY_MOLECULES = (
    ([], 5, 0), ([0], 1, 0), (A_MOLECULE[:-1], 5, len(A_MOLECULE) - 1), (A_MOLECULE + [1], 7, len(A_MOLECULE)),
    (molecule([atom(), atom(0)]), 2, 12), (molecule([atom()] * 3, [bond(0, 2), bond(0, 1)]), 3, 28),
    (molecule([atom(), atom(hand=2)]), 4, 17), (molecule([atom()] * 2, [bond(0, 1, 2, 2)]), 6, 21),
    (A_PATTERN, 1, 2),
)


def check_refusals(test, call, *ahead):
    """Of a call that takes these numbers, then a pattern and a molecule: which of the two is told as faulty."""
    for form, rule, place in FAULTY_PATTERNS:
        for other in [A_MOLECULE] + [x[0] for x in FAULTY_MOLECULES]:
            test.assertEqual(ask(test, call, *ahead, form, other), [-5, 0, rule, place])
    for form, rule, place in FAULTY_MOLECULES:
        for other in (A_PATTERN, pattern([])):
            test.assertEqual(ask(test, call, *ahead, other, form), [-5, 1, rule, place])


def check_one_form_refusals(test, call, *ahead):
    """Of a call that takes these numbers, then a molecule."""
    for form, rule, place in FAULTY_MOLECULES:
        test.assertEqual(ask(test, call, *ahead, form), [-5, 0, rule, place])


def with_byte(form, place, byte):
    return form[:place] + [byte] + form[place + 1:]


# From here on the document's sentences, as plainly as can be, on molecules and patterns that are well made.

def neighbours(graph, k):
    return sorted([x.b for x in graph.bonds if x.a == k] + [x.a for x in graph.bonds if x.b == k])


def sum_at(bonds, orders, k):
    return sum(order for x, order in zip(bonds, orders) if k in (x.a, x.b))


def all_sums(mol, orders):
    sums = [0] * len(mol.atoms)
    for x, order in zip(mol.bonds, orders):
        sums[x.a] += order
        sums[x.b] += order
    return sums


def redrawings(mol):
    sums = all_sums(mol, [x.order for x in mol.bonds])
    rows = itertools.product((1, 2, 3), repeat=len(mol.bonds))
    return [row for row in rows if all_sums(mol, row) == sums]


def orders_drawn(mol):
    rows = redrawings(mol)
    return [{row[k] for row in rows} for k in range(len(mol.bonds))]


def hand_may_be(mol, k):
    count = len(neighbours(mol, k))
    hydrogens = mol.atoms[k].hydrogens
    return count in (3, 4) and hydrogens in (0, 1) and count + hydrogens in (3, 4)


def side_may_be(mol, k, drawn):
    x = mol.bonds[k]
    for end in (x.a, x.b):
        others = len(neighbours(mol, end)) - 1
        if others not in (1, 2) or others + mol.atoms[end].hydrogens > 2:
            return False
    return drawn[k] == {2}


def row_around(mol, k):
    row = neighbours(mol, k)
    if mol.atoms[k].hydrogens == 1:
        return ["hydrogen"] + row
    return ["empty"] + row if len(row) == 3 else row


def exchanges(row, other):
    """How many exchanges of two turn the one row into the other."""
    row = list(row)
    done = 0
    for k, x in enumerate(other):
        if row[k] != x:
            j = row.index(x)
            row[k], row[j] = row[j], row[k]
            done += 1
    return done


def on_one_side(graph, x, p, q):
    """Whether p, beside the bond's a, and q, beside its b, lie on one side of it."""
    least_p = min(set(neighbours(graph, x.a)) - {x.b})
    least_q = min(set(neighbours(graph, x.b)) - {x.a})
    one = x.side == 1
    if p != least_p:
        one = not one
    if q != least_q:
        one = not one
    return one


def rings(mol):
    """All rings, as rows of atoms, in the order of their lengths, then of their rows."""
    found = []
    ties = {frozenset((x.a, x.b)) for x in mol.bonds}
    for length in range(3, len(mol.atoms) + 1):
        for atoms in itertools.combinations(range(len(mol.atoms)), length):
            for others in itertools.permutations(atoms[1:]):
                row = atoms[:1] + others
                if row[1] < row[-1] and all(frozenset((row[k - 1], row[k])) in ties for k in range(length)):
                    found.append(row)
    return sorted(found, key=lambda row: (len(row), row))


def ring_bonds(row):
    return frozenset(frozenset((row[k - 1], row[k])) for k in range(len(row)))


def ring_row(atoms):
    """The row of the ring that goes through these atoms in turn, wherever it begins and whichever way it goes."""
    turned = [atoms[k:] + atoms[:k] for k in range(len(atoms))]
    return min(turned + [row[:1] + row[:0:-1] for row in turned])


def sums_of(rows):
    """Every sum of some of the rings, each a set of bonds."""
    sums = {frozenset()}
    for row in rows:
        sums = sums | {x ^ ring_bonds(row) for x in sums}
    return sums


def short_by_trial(mol):
    found = rings(mol)
    shorter = {length: sums_of([row for row in found if len(row) < length]) for length in range(len(mol.atoms) + 1)}
    return [list(row) for row in found if ring_bonds(row) not in shorter[len(row)]]


def least_bases(mol):
    """Of all sets of rings of which each ring is a sum those with the fewest atoms, by trying every set."""
    found = rings(mol)
    wanted = {ring_bonds(row) for row in found}
    least = None
    bases = []
    for size in range(len(found) + 1):
        for rows in itertools.combinations(found, size):
            atoms = sum(len(row) for row in rows)
            if (least is None or atoms <= least) and wanted <= sums_of(rows):
                bases = (bases if atoms == least else []) + [rows]
                least = atoms
    return bases


def pieces(mol):
    """The atoms of each piece; none is tied to another piece by a bond."""
    names = list(range(len(mol.atoms)))
    for x in mol.bonds:
        names = [names[x.a] if name == names[x.b] else name for name in names]
    return [[k for k, other in enumerate(names) if other == name] for name in sorted(set(names))]


def greatest_piece(mol):
    return max([len(atoms) for atoms in pieces(mol)], default=0)


def least_by_trial(mol):
    """Of each atom, then of each bond, the length of the least of all rings that have it."""
    found = rings(mol)
    of_atoms = [min([len(row) for row in found if k in row], default=0) for k in range(len(mol.atoms))]
    of_bonds = [min([len(row) for row in found if frozenset((x.a, x.b)) in ring_bonds(row)], default=0)
                for x in mol.bonds]
    return of_atoms + of_bonds


class Tried:
    """The maps of patterns into one molecule, by trying every row of images."""

    def __init__(self, mol):
        self.mol = mol
        self.drawn = orders_drawn(mol)
        self.own_orders = [x.order for x in mol.bonds]
        self.atom_rings = set()
        self.bond_rings = set()
        for row in rings(mol):
            self.atom_rings.update(row)
            self.bond_rings.update(frozenset((row[k - 1], row[k])) for k in range(len(row)))
        self.bond_at = {frozenset((x.a, x.b)): k for k, x in enumerate(mol.bonds)}

    def maps(self, pat):
        rows = itertools.permutations(range(len(self.mol.atoms)), len(pat.atoms))
        return [row for row in rows if self.is_map(pat, row)]

    def counts(self, pat):
        found = self.maps(pat)
        return [0, len(found), len({frozenset(row) for row in found})]

    def is_map(self, pat, row):
        for k, x in enumerate(pat.atoms):
            if not self.atom_is(x, row[k]):
                return False
        for x in pat.bonds:
            if not self.bond_is(x, row[x.a], row[x.b]):
                return False
        return self.hands_are(pat, row) and self.sides_are(pat, row)

    def atom_is(self, x, k):
        image = self.mol.atoms[k]
        numbers = [
            (image.charge, x.charge),
            (image.hydrogens, x.hydrogens),
            (len(neighbours(self.mol, k)), x.neighbours),
            (sum_at(self.mol.bonds, self.own_orders, k), x.total),
        ]
        if any(number not in range(least, most + 1) for number, (least, most) in numbers):
            return False
        if x.named and image.element not in x.named:
            return False
        if x.isotope not in (501, image.isotope):
            return False
        return x.ring in (0, 1 if k in self.atom_rings else 2)

    def bond_is(self, x, a, b):
        pair = frozenset((a, b))
        if pair not in self.bond_at:
            return False
        drawn = self.drawn[self.bond_at[pair]]
        named = {order for order in (1, 2, 3) if x.orders >> (order - 1) & 1}
        if not (drawn <= named if x.how else drawn & named):
            return False
        return x.ring in (0, 1 if pair in self.bond_rings else 2)

    def hands_are(self, pat, row):
        for k, x in enumerate(pat.atoms):
            hand = self.mol.atoms[row[k]].hand
            if x.hand == 3 and hand != 0 or x.hand in (1, 2) and hand == 0:
                return False
            if x.hand in (1, 2):
                around = row_around(self.mol, row[k])
                images = [row[j] for j in neighbours(pat, k)]
                other = [y for y in around if y not in images] + images
                if (hand == x.hand) != (exchanges(around, other) % 2 == 0):
                    return False
        return True

    def sides_are(self, pat, row):
        for x in pat.bonds:
            image = self.mol.bonds[self.bond_at[frozenset((row[x.a], row[x.b]))]]
            if x.side == 3 and image.side != 0 or x.side in (1, 2) and image.side == 0:
                return False
            if x.side in (1, 2):
                p = min(set(neighbours(pat, x.a)) - {x.b})
                q = min(set(neighbours(pat, x.b)) - {x.a})
                ends = {row[x.a]: row[p], row[x.b]: row[q]}
                if on_one_side(self.mol, image, ends[image.a], ends[image.b]) != (x.side == 1):
                    return False
        return True


def is_sameness(one, other, row):
    """Whether the row of images shows the two molecules, of as many atoms, the same."""
    one_orders = [x.order for x in one.bonds]
    other_orders = [x.order for x in other.bonds]
    for k, x in enumerate(one.atoms):
        y = other.atoms[row[k]]
        if x[:4] != y[:4] or (x.hand == 0) != (y.hand == 0):
            return False
        if sum_at(one.bonds, one_orders, k) != sum_at(other.bonds, other_orders, row[k]):
            return False
    images = {frozenset((row[x.a], row[x.b])): x for x in one.bonds}
    if set(images) != {frozenset((y.a, y.b)) for y in other.bonds}:
        return False
    for k, x in enumerate(one.atoms):
        if x.hand:
            carried = [row[j] if isinstance(j, int) else j for j in row_around(one, k)]
            even = exchanges(carried, row_around(other, row[k])) % 2 == 0
            if even != (x.hand == other.atoms[row[k]].hand):
                return False
    return all(side_carried(one, other, row, images[frozenset((y.a, y.b))], y) for y in other.bonds)


def side_carried(one, other, row, x, y):
    if x.side == 0 or y.side == 0:
        return x.side == y.side
    kept = []
    for end, far in ((x.a, x.b), (x.b, x.a)):
        least = min(set(neighbours(one, end)) - {far})
        kept.append(row[least] == min(set(neighbours(other, row[end])) - {row[far]}))
    return (kept[0] == kept[1]) == (x.side == y.side)


def samenesses(one, other):
    rows = itertools.permutations(range(len(other.atoms)), len(one.atoms))
    return [row for row in rows if len(one.atoms) == len(other.atoms) and is_sameness(one, other, row)]


# Molecules and patterns drawn by lot, from a source that a test begins with a number of its own.

def some_bonds(lot, n, most):
    pairs = list(itertools.combinations(range(n), 2))
    chosen = sorted(lot.sample(pairs, min(len(pairs), lot.randint(most // 2, most))))
    return [bond(a, b, lot.choice((1, 1, 2, 2, 3))) for a, b in chosen]


def some_molecule(lot, n, most_bonds, hydrogens=1, elements=(6, 7)):
    atoms = [atom(lot.choice(elements), lot.choice((0, 0, 13)), lot.choice((0, 0, 1)), lot.randint(0, hydrogens))
             for k in range(n)]
    return with_turns(lot, Molecule(atoms, some_bonds(lot, n, most_bonds)))


def with_turns(lot, mol):
    """The molecule with hands and sides put at random where they may be."""
    drawn = orders_drawn(mol)
    atoms = [x._replace(hand=lot.randint(0, 2) if hand_may_be(mol, k) else 0) for k, x in enumerate(mol.atoms)]
    bonds = [x._replace(side=lot.randint(0, 2) if side_may_be(mol, k, drawn) else 0) for k, x in enumerate(mol.bonds)]
    return Molecule(atoms, bonds)


def turned_molecule(lot):
    """A molecule in which a hand or a side is likely."""
    kinds = [lot.choice((6, 7)) for k in range(6)]
    if lot.random() < 0.5:
        count_of_leaves = lot.choice((3, 4))
        pairs = [(0, k + 1, 1) for k in range(count_of_leaves)] + [(1, 5, 1)]
    else:
        pairs = [(0, 1, 2), (0, 2, 1), (1, 3, 1)] + lot.choice(([], [(0, 4, 1)], [(1, 5, 1)], [(0, 4, 1), (1, 5, 1)]))
    row = list(range(6))
    lot.shuffle(row)
    bonds = sorted(bond(min(row[a], row[b]), max(row[a], row[b]), order) for a, b, order in pairs)
    return with_turns(lot, Molecule([atom(k) for k in kinds], bonds))


def five_atoms(lot):
    """A molecule that count's patterns can be as large as."""
    if lot.random() < 0.4:
        return some_molecule(lot, lot.randint(1, 5), 6, 1, (6, 7))
    kinds = [lot.choice((6, 7)) for k in range(5)]
    shapes = ([(0, 1, 1), (0, 2, 1), (0, 3, 1), (0, 4, 1)], [(0, 1, 1), (0, 2, 1), (0, 3, 1), (3, 4, 1)],
              [(0, 1, 2), (0, 2, 1), (1, 3, 1), (1, 4, 1)], [(0, 1, 2), (0, 2, 1), (1, 3, 1), (3, 4, 1)])
    return with_turns(lot, Molecule([atom(k) for k in kinds], [bond(*x) for x in sorted(lot.choice(shapes))]))


def some_rings(lot, n, m):
    """A molecule with just so many bonds, if its atoms have room for them; it has no sides: they'd take long."""
    pairs = list(itertools.combinations(range(n), 2))
    chosen = sorted(lot.sample(pairs, min(len(pairs), m)))
    atoms = [atom(lot.choice((6, 7, 8)), hydrogens=lot.randint(0, 1)) for k in range(n)]
    mol = Molecule(atoms, [bond(a, b, lot.choice((1, 1, 1, 2, 3))) for a, b in chosen])
    return Molecule([x._replace(hand=lot.randint(0, 2) if hand_may_be(mol, k) else 0) for k, x in enumerate(atoms)],
                    mol.bonds)


def redrawn(mol, orders):
    return Molecule(mol.atoms, [x._replace(order=order) for x, order in zip(mol.bonds, orders)])


def mirrored(mol):
    return Molecule([x._replace(hand=(0, 2, 1)[x.hand]) for x in mol.atoms], mol.bonds)


def renumbered(mol, row):
    """The same molecule, its atom k called row[k]."""
    atoms = [None] * len(mol.atoms)
    for k, x in enumerate(mol.atoms):
        atoms[row[k]] = x
    bonds = sorted(bond(min(row[x.a], row[x.b]), max(row[x.a], row[x.b]), x.order) for x in mol.bonds)
    bare = Molecule(atoms, bonds)
    for k, x in enumerate(mol.atoms):
        if x.hand:
            carried = [row[j] if isinstance(j, int) else j for j in row_around(mol, k)]
            if exchanges(carried, row_around(bare, row[k])) % 2:
                atoms[row[k]] = x._replace(hand=3 - x.hand)
    at = {(x.a, x.b): k for k, x in enumerate(bonds)}
    for x in mol.bonds:
        if x.side:
            pair = (min(row[x.a], row[x.b]), max(row[x.a], row[x.b]))
            same = bonds[at[pair]]._replace(side=x.side)
            other = same._replace(side=3 - x.side)
            bonds[at[pair]] = same if side_carried(mol, Molecule(atoms, bonds), row, x, same) else other
    return Molecule(atoms, bonds)


def some_part(lot, mol, most):
    """Some atoms of the molecule, each but the first beside one before it where that can be, in any order."""
    left = list(range(len(mol.atoms)))
    part = []
    for k in range(lot.randint(1, most)):
        beside = [j for j in left if any(j in neighbours(mol, i) for i in part)] or left
        if beside:
            part.append(lot.choice(beside))
            left.remove(part[-1])
    lot.shuffle(part)
    return part


def some_pattern(lot, mol, most=5):
    """A pattern that fits some part of the molecule, or nearly."""
    def around(number, low, high):
        if lot.random() < 0.6:
            return (low, high)
        return (max(low, number - lot.choice((0, 0, 1, -1))), min(high, number + lot.choice((0, 0, 1, 2))))

    def ordered(pair):
        return tuple(sorted(pair))

    part = some_part(lot, mol, most)
    numbers = {k: j for j, k in enumerate(part)}
    orders = [x.order for x in mol.bonds]
    atoms = []
    for k in part:
        x = mol.atoms[k]
        named = lot.choice(((), (), (x.element,), (6, 7), (7, 8)))
        atoms.append(said(named, lot.choice((501, 501, x.isotope)), ordered(around(x.charge, -4, 4)),
                          ordered(around(x.hydrogens, 0, 7)), ordered(around(len(neighbours(mol, k)), 0, 127)),
                          ordered(around(sum_at(mol.bonds, orders, k), 0, 381)), lot.choice((0, 0, 0, 1, 2))))
    bonds = []
    for x in mol.bonds:
        if x.a in numbers and x.b in numbers and lot.random() < 0.9:
            a, b = sorted((numbers[x.a], numbers[x.b]))
            bonds.append(joined(a, b, lot.choice((7, 7, 1 << x.order - 1, lot.randint(1, 7))), lot.randint(0, 1),
                                lot.choice((0, 0, 0, 1, 2))))
    return with_said_turns(lot, Pattern(atoms, sorted(bonds)))


def with_said_turns(lot, pat):
    atoms = []
    for k, x in enumerate(pat.atoms):
        hands = (0, 1, 2, 1, 2, 3) if len(neighbours(pat, k)) in (3, 4) else (0, 0, 3)
        atoms.append(x._replace(hand=lot.choice(hands)))
    bonds = []
    for x in pat.bonds:
        besides = [len(neighbours(pat, end)) - 1 for end in (x.a, x.b)]
        sides = (0, 1, 2, 1, 2, 3) if set(besides) <= {1, 2} else (0, 0, 3)
        bonds.append(x._replace(side=lot.choice(sides)))
    return Pattern(atoms, bonds)
