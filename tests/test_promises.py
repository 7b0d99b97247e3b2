"""What the document promises over the whole program, at molecules and patterns of several kinds."""

import builtins
import contextlib
import inspect
import io
import itertools
import pkgutil
import random
import sys
import unittest
from unittest import mock

import moleculeparts
from moleculeparts import parts
from moleculeparts.parts import common, count, covered, cut, judge, least, map_of, own, place, short, sizes
from moleculeparts.patterns import pattern_form as written
from moleculeparts.patterns import read_pattern
from tests.helper import A_MOLECULE, A_PATTERN, FAULTY_MOLECULES, FAULTY_PATTERNS, Molecule, Pattern, Tried, ask, atom
from tests.helper import bond, greatest_piece, joined, least_bases, least_by_trial, mirrored, molecule, molecule_form
from tests.helper import pattern, pattern_form, pieces, redrawings, redrawn, renumbered, ring_row, rings, round_pairs
from tests.helper import row_of, rows_told, said, samenesses, shape, short_by_trial, some_pattern, some_rings, with_byte

STAR = [bond(0, 1), bond(0, 2), bond(0, 3)]

# Molecules that all calls take, those of common too: seven atoms at most.
MOLECULES = {
    "no atoms": Molecule([], []),
    "one atom": Molecule([atom(8, 18, -2, 0)], []),
    "atoms by themselves": Molecule([atom(), atom(), atom(7), atom(6, 13)], []),
    "pieces": Molecule([atom(6, hydrogens=3), atom(8), atom(6), atom(8), atom(7, charge=1)],
                       [bond(0, 2), bond(1, 3, 2)]),
    "chain": Molecule([atom(6), atom(7), atom(6), atom(8)], [bond(0, 1), bond(1, 2, 2), bond(2, 3)]),
    "three ring": shape(3, round_pairs(0, 1, 2)),
    "square not fixed": Molecule([atom()] * 4, [bond(0, 1, 2), bond(0, 3), bond(1, 2), bond(2, 3, 2)]),
    "square of doubles": Molecule([atom()] * 4, [bond(0, 1, 2), bond(0, 3, 2), bond(1, 2, 2), bond(2, 3, 2)]),
    "six ring": Molecule([atom(hydrogens=1)] * 6,
                         [bond(0, 1, 2), bond(0, 5), bond(1, 2), bond(2, 3, 2), bond(3, 4), bond(4, 5, 2)]),
    "odd rings tied": Molecule([atom(), atom(), atom(7), atom(8), atom(), atom()],
                               [bond(0, 1), bond(0, 2, 2), bond(1, 2, 2), bond(2, 3), bond(3, 4, 2), bond(3, 5, 2),
                                bond(4, 5)]),
    "ring with a tail": shape(5, round_pairs(0, 2, 4) + [(1, 2), (1, 3)]),
    "two rings": shape(5, round_pairs(0, 1, 2) + round_pairs(2, 3, 4)),
    "cage": shape(4, itertools.combinations(range(4), 2)),
    "three ways": shape(5, itertools.product(range(2), range(2, 5))),
    "hand and hydrogen": Molecule([atom(hydrogens=1, hand=1), atom(9), atom(17), atom(35)], STAR),
    "hand and empty place": Molecule([atom(15, hand=2), atom(9), atom(9), atom(35)], STAR),
    "hand of four": Molecule([atom(hand=1), atom(9), atom(17), atom(35), atom(53)], STAR + [bond(0, 4)]),
    "side": Molecule([atom(9), atom(), atom(), atom(9)], [bond(0, 1), bond(1, 2, 2, 2), bond(2, 3)]),
    "side of two": Molecule([atom(9), atom(), atom(), atom(17), atom(35)],
                            [bond(0, 1), bond(1, 2, 2, 1), bond(2, 3), bond(2, 4)]),
}

PATTERNS = {
    "no atoms": Pattern([], []),
    "any atom": Pattern([said()], []),
    "named": Pattern([said((6, 7, 8))], []),
    "numbers": Pattern([said((), 0, (0, 0), (0, 1), (1, 3), (2, 4))], []),
    "ring": Pattern([said(ring=1), said(ring=2)], []),
    "bond": Pattern([said(), said()], [joined(0, 1)]),
    "single in all": Pattern([said(), said()], [joined(0, 1, 1, 1)]),
    "double in some": Pattern([said(), said((6,))], [joined(0, 1, 2, 0)]),
    "bond in a ring": Pattern([said(), said()], [joined(0, 1, ring=1)]),
    "bond in none": Pattern([said(), said()], [joined(0, 1, ring=2)]),
    "chain": Pattern([said()] * 3, [joined(0, 2), joined(1, 2)]),
    "three ring": Pattern([said()] * 3, [joined(0, 1), joined(0, 2), joined(1, 2)]),
    "hand": Pattern([said(hand=1)] + [said()] * 3, [joined(0, 1), joined(0, 2), joined(0, 3)]),
    "other hand": Pattern([said()] * 3 + [said(hand=2)], [joined(0, 3), joined(1, 3), joined(2, 3)]),
    "no hand": Pattern([said(neighbours=(3, 4), hand=3)], []),
    "side": Pattern([said()] * 4, [joined(0, 1), joined(1, 2, side=1), joined(2, 3)]),
    "other side": Pattern([said()] * 4, [joined(0, 2), joined(1, 3), joined(2, 3, side=2)]),
    "no side": Pattern([said(), said()], [joined(0, 1, 2, 1, 2, 3)]),
}

# At the interface's bounds: nine atoms, twelve bonds.
LARGE = [molecule_form(x) for x in (
    shape(9, round_pairs(*range(9)) + [(0, 3), (3, 6), (0, 6)]),
    shape(8, round_pairs(0, 1, 2, 3) + round_pairs(4, 5, 6, 7) + [(0, 4), (1, 5), (2, 6), (3, 7)]),
    shape(9, itertools.product(range(2), range(2, 8))),
    Molecule([atom()] * 7, [bond(a, b, 2) for a, b in itertools.product(range(3), range(3, 7))]),
    shape(9, [(0, k) for k in range(1, 9)] + [(1, 2), (3, 4), (5, 6), (7, 8)]),
    shape(9, []),
)]


def shuffled(lot, many):
    row = list(range(many))
    lot.shuffle(row)
    return row


def by_length(rows):
    return sorted(rows, key=lambda row: (len(row), row))


class PatternBytesTest(unittest.TestCase):
    """Promise 1: a pattern's bytes are one; what's judged is written the same."""

    def forms(self):
        forms = [pattern_form(x) for x in PATTERNS.values()]
        for mol in MOLECULES.values():
            forms.append(row_of(self, own(molecule_form(mol))))
            for size in range(min(4, len(mol.atoms) + 1)):
                forms.append(row_of(self, cut(molecule_form(mol), list(range(size)))))
        return forms

    def test_what_is_judged_is_written_the_same(self):
        for form in self.forms():
            self.assertEqual(ask(self, judge, form), [0, form[4], form[5]])
            self.assertEqual(written(read_pattern(form, 0)), form)

    def test_with_another_byte_it_is_another_pattern_or_none(self):
        told = {0: 0, -5: 0}
        for form in self.forms():
            for at in range(len(form)):
                for byte in {0, 1, 2, 3, 6, 255, form[at] + 1} - {form[at]}:
                    other = with_byte(form, at, byte)
                    answer = judge(other)
                    told[answer[0]] += 1
                    if answer[0] == 0:
                        self.assertEqual(written(read_pattern(other, 0)), other)
                    else:
                        self.assertEqual(answer[:2], [-5, 0])
                        self.assertIn(answer[2], range(1, 8))
                        self.assertLessEqual(answer[3], len(other))
        self.assertGreater(min(told.values()), 1000)

    def test_shorter_or_longer_it_is_none(self):
        for form in self.forms():
            for end in range(len(form)):
                self.assertEqual(judge(form[:end]), [-5, 0, 5, end])
            self.assertEqual(judge(form + [0]), [-5, 0, 7, len(form)])


class MapsAndPlacesTest(unittest.TestCase):
    """Promise 2: just those that are as said, each once, in order; the same redrawn, renumbered these renumbered."""

    def pairs(self):
        lot = random.Random(131)
        for mol in MOLECULES.values():
            pats = list(PATTERNS.values())
            if mol.atoms:
                pats += [some_pattern(lot, mol, 4) for k in range(4)]
            for pat in pats:
                yield pat, mol

    def test_just_those_that_are_as_said_each_once_in_order(self):
        standing = {}
        for pat, mol in self.pairs():
            forms = (pattern_form(pat), molecule_form(mol))
            maps = [list(row) for row in Tried(mol).maps(pat)]
            firsts = {}
            for row in sorted(maps):
                firsts.setdefault(frozenset(row), row)
            self.assertEqual(rows_told(self, map_of, *forms), sorted(maps))
            self.assertEqual(rows_told(self, place, *forms), sorted(firsts.values()))
            self.assertEqual(ask(self, count, *forms), [0, len(maps), len(firsts)])
            marks = [1 if any(k in row for row in maps) else 0 for k in range(len(mol.atoms))]
            self.assertEqual(ask(self, covered, *forms), [0, len(marks)] + marks)
            standing[str(pat)] = standing.get(str(pat), 0) + len(maps)
        self.assertEqual([name for name, pat in PATTERNS.items() if standing[str(pat)] == 0], [])

    def test_redrawn(self):
        drawn = 0
        for pat, mol in self.pairs():
            form = pattern_form(pat)
            maps = rows_told(self, map_of, form, molecule_form(mol))
            places = rows_told(self, place, form, molecule_form(mol))
            rows = redrawings(mol)
            for orders in (rows[0], rows[-1]):
                other = molecule_form(redrawn(mol, orders))
                if other != molecule_form(mol):
                    drawn += 1
                    self.assertEqual(rows_told(self, map_of, form, other), maps)
                    self.assertEqual(rows_told(self, place, form, other), places)
        self.assertGreater(drawn, 50)

    def test_renumbered(self):
        lot = random.Random(132)
        for pat, mol in self.pairs():
            row = shuffled(lot, len(mol.atoms))
            maps = rows_told(self, map_of, pattern_form(pat), molecule_form(mol))
            other = molecule_form(renumbered(mol, row))
            carried = sorted([row[x] for x in images] for images in maps)
            self.assertEqual(rows_told(self, map_of, pattern_form(pat), other), carried)


class OwnAndCutTest(unittest.TestCase):
    """Promise 3: the own pattern's maps show two molecules the same; what's cut out stands where it was cut."""

    def test_its_maps_are_just_those_that_show_them_the_same(self):
        small = [mol for mol in MOLECULES.values() if len(mol.atoms) <= 5]
        small += [mirrored(mol) for mol in small]
        same = 0
        for one, other in itertools.product(small, repeat=2):
            if len(one.atoms) == len(other.atoms):
                form = row_of(self, own(molecule_form(one)))
                rows = [list(row) for row in samenesses(one, other)]
                self.assertEqual(rows_told(self, map_of, form, molecule_form(other)), rows)
                self.assertEqual(count(form, molecule_form(other)), [0, len(rows), 1 if rows else 0])
                same += len(rows) > 0
        self.assertGreater(same, len(small))

    def test_renumbered_and_redrawn_it_is_the_same(self):
        lot = random.Random(133)
        for mol in MOLECULES.values():
            if len(mol.atoms) <= 5:
                form = row_of(self, own(molecule_form(mol)))
                row = shuffled(lot, len(mol.atoms))
                other = renumbered(redrawn(mol, lot.choice(redrawings(mol))), row)
                self.assertIn(row, rows_told(self, map_of, form, molecule_form(other)))

    def test_what_is_cut_out_stands_where_it_was_cut(self):
        for mol in MOLECULES.values():
            form = molecule_form(mol)
            for size in range(min(4, len(mol.atoms)) + 1):
                for atoms in itertools.combinations(range(len(mol.atoms)), size):
                    part = row_of(self, ask(self, cut, form, list(atoms)))
                    self.assertIn(list(atoms), rows_told(self, map_of, part, form))


class RingsTest(unittest.TestCase):
    """Promise 4, and the least rings."""

    def molecules(self):
        lot = random.Random(134)
        return list(MOLECULES.values()) + [some_rings(lot, lot.randint(4, 7), lot.randint(4, 10)) for k in range(40)]

    def test_as_many_as_bonds_less_atoms_and_pieces_more(self):
        for mol in self.molecules():
            lengths = row_of(self, ask(self, sizes, molecule_form(mol)))
            self.assertEqual(len(lengths), len(mol.bonds) - len(mol.atoms) + len(pieces(mol)))

    def test_fewest_atoms_and_a_ring_is_short_just_if_some_least_basis_has_it(self):
        for mol in self.molecules():
            form = molecule_form(mol)
            rows = rows_told(self, short, form)
            self.assertEqual(rows, short_by_trial(mol))
            if len(rings(mol)) <= 9:
                bases = least_bases(mol)
                for basis in bases:
                    self.assertEqual(sorted(len(row) for row in basis), row_of(self, ask(self, sizes, form)))
                of_some_basis = {row for basis in bases for row in basis}
                self.assertEqual(rows, by_length([list(row) for row in of_some_basis]))

    def test_least(self):
        for mol in self.molecules():
            self.assertEqual(row_of(self, ask(self, least, molecule_form(mol))), least_by_trial(mol))

    def test_redrawn_and_renumbered(self):
        lot = random.Random(135)
        for mol in MOLECULES.values():
            row = shuffled(lot, len(mol.atoms))
            drawn = redrawn(mol, lot.choice(redrawings(mol)))
            for call in (sizes, least):
                self.assertEqual(call(molecule_form(drawn)), call(molecule_form(mol)))
            other = molecule_form(renumbered(drawn, row))
            self.assertEqual(sizes(other), sizes(molecule_form(mol)))
            carried = [ring_row([row[x] for x in atoms]) for atoms in rows_told(self, short, molecule_form(mol))]
            self.assertEqual(rows_told(self, short, other), by_length(carried))


class InCommonTest(unittest.TestCase):
    """Promise 5: as large from either side, however the two are drawn; of a molecule and itself its greatest piece."""

    def size(self, one, other):
        return len(row_of(self, ask(self, common, molecule_form(one), molecule_form(other)))) // 2

    def test_from_either_side(self):
        sizes_found = set()
        for one, other in itertools.combinations(MOLECULES.values(), 2):
            size = self.size(one, other)
            self.assertEqual(self.size(other, one), size)
            sizes_found.add(size)
        self.assertEqual(sizes_found, {0, 1, 2, 3, 4})

    def test_however_they_are_drawn(self):
        lot = random.Random(136)
        for one, other in itertools.combinations(MOLECULES.values(), 2):
            size = self.size(one, other)
            drawn = [redrawn(x, lot.choice(redrawings(x))) for x in (one, other)]
            self.assertEqual(self.size(*drawn), size)
            self.assertEqual(self.size(*[renumbered(x, shuffled(lot, len(x.atoms))) for x in drawn]), size)

    def test_a_molecule_and_itself(self):
        lot = random.Random(137)
        for mol in MOLECULES.values():
            size = greatest_piece(mol)
            self.assertEqual(self.size(mol, mol), size)
            self.assertEqual(self.size(mol, mirrored(mol)), size)
            self.assertEqual(self.size(mol, renumbered(mol, shuffled(lot, len(mol.atoms)))), size)


class Unchangeable(list):
    """A list that tells when somebody changes it, though it were for a while."""

    def refuse(self, *arguments):
        raise AssertionError("what was handed in is changed")

    append = clear = extend = insert = pop = remove = reverse = sort = refuse
    __setitem__ = __delitem__ = __iadd__ = __imul__ = refuse


def all_calls():
    """Calls of every function, with forms of all kinds, faulty ones too."""
    mols = [molecule_form(x) for x in MOLECULES.values()]
    pats = [pattern_form(x) for x in PATTERNS.values()]
    faulty_mols = [x[0] for x in FAULTY_MOLECULES]
    faulty_pats = [x[0] for x in FAULTY_PATTERNS]
    calls = [(judge, form) for form in pats + faulty_pats]
    for form in mols + faulty_mols + LARGE:
        calls += [(own, form), (sizes, form), (least, form)]
        calls += [(short, k, form) for k in (0, 1, 2 ** 32 - 1)]
        calls += [(cut, form, atoms) for atoms in ([], [0], [0, 1], [1, 0], [9], [2 ** 32 - 1] * 200)]
    for pat, mol in list(itertools.product(pats, mols + LARGE)) + [(A_PATTERN, x) for x in faulty_mols]:
        calls += [(count, pat, mol), (covered, pat, mol), (map_of, 1, pat, mol), (place, 1, pat, mol)]
    for pat in faulty_pats:
        calls += [(count, pat, A_MOLECULE), (covered, pat, A_MOLECULE)]
        calls += [(map_of, 2 ** 32 - 1, pat, A_MOLECULE), (place, 2 ** 32 - 1, pat, A_MOLECULE)]
    for one, other in itertools.product(mols + faulty_mols, repeat=2):
        calls.append((common, one, other))
    return calls


def package_state():
    """What the package's files hold at their tops and in their functions' defaults."""
    state = {}
    for info in pkgutil.iter_modules(moleculeparts.__path__, "moleculeparts."):
        module = sys.modules[info.name]
        for name, value in vars(module).items():
            if not name.startswith("__"):
                defaults = (value.__defaults__, dict(vars(value))) if inspect.isfunction(value) else None
                state[(info.name, name)] = (repr(value), repr(defaults))
    return state


class WholeProgramTest(unittest.TestCase):
    def test_the_interface(self):
        names = {
            "judge": ["pattern"], "own": ["molecule"], "cut": ["molecule", "atoms"], "count": ["pattern", "molecule"],
            "map_of": ["k", "pattern", "molecule"], "place": ["k", "pattern", "molecule"],
            "covered": ["pattern", "molecule"], "common": ["molecule", "another"], "sizes": ["molecule"],
            "short": ["k", "molecule"], "least": ["molecule"],
        }
        for name, arguments in names.items():
            self.assertEqual(list(inspect.signature(getattr(parts, name)).parameters), arguments)
        self.assertEqual({call[0].__name__ for call in all_calls()}, set(names))

    def test_what_is_handed_in_is_not_changed_not_for_a_while_either(self):
        for call, *arguments in all_calls():
            guarded = [Unchangeable(x) if isinstance(x, list) else x for x in arguments]
            self.assertEqual(call(*guarded), call(*arguments))
            self.assertEqual(guarded, arguments)

    def test_one_list_may_be_handed_in_twice(self):
        for mol in MOLECULES.values():
            form = molecule_form(mol)
            self.assertEqual(common(form, form), common(form, list(form)))

    def test_answers_are_lists_of_whole_numbers_of_their_own(self):
        for call, *arguments in all_calls():
            answer = ask(self, call, *arguments)
            self.assertIn(answer[0], (0, -1, -2, -5))
            if answer[0] == 0:
                self.assertEqual(len(answer), 3 if call in (judge, count) else 2 + answer[1])
            else:
                self.assertEqual(len(answer), 4 if answer[0] == -5 else 1)

    def test_nothing_is_kept_from_one_time_to_the_next(self):
        calls = all_calls()
        state = package_state()
        answers = [call(*arguments) for call, *arguments in calls]
        self.assertEqual(package_state(), state)
        order = shuffled(random.Random(138), len(calls))
        for k in order:
            self.assertEqual(calls[k][0](*calls[k][1:]), answers[k])
        self.assertEqual(package_state(), state)

    def test_nothing_is_printed_read_or_imported(self):
        refused = AssertionError("nothing is printed, read or imported")
        printed = io.StringIO()
        for call, *arguments in all_calls():
            with contextlib.redirect_stdout(printed), contextlib.redirect_stderr(printed):
                with mock.patch.object(builtins, "open", side_effect=refused), \
                        mock.patch.object(builtins, "input", side_effect=refused), \
                        mock.patch.object(builtins, "__import__", side_effect=refused):
                    call(*arguments)
        self.assertEqual(printed.getvalue(), "")

    def depth(self, call, *arguments):
        """How many calls within one another it comes to."""
        now = [0]
        most = [0]

        def watch(frame, event, argument):
            if event == "call":
                now[0] += 1
                most[0] = max(most[0], now[0])
            elif event == "return":
                now[0] -= 1

        sys.setprofile(watch)
        try:
            call(*arguments)
        finally:
            sys.setprofile(None)
        return most[0]

    def test_what_is_long_is_gone_through_by_loops(self):
        pairs = [(a, b) for a in range(128) for b in range(a + 1, 128)][:192]
        long_pattern = pattern([said(range(1, 9))] * 128, [joined(a, b) for a, b in pairs])
        chain = pattern([said()] * 128, [joined(k, k + 1) for k in range(127)])
        calls = [(judge, long_pattern), (judge, chain), (judge, long_pattern + [0] * 1000), (own, A_MOLECULE + [0] * 5000)]
        for form in LARGE:
            calls += [(own, form), (sizes, form), (least, form), (short, 0, form), (cut, form, [0, 1, 2])]
            calls += [(count, pattern([said()] * 5), form), (covered, pattern_form(PATTERNS["side"]), form)]
        seven = molecule_form(shape(7, itertools.product(range(3), range(3, 7))))
        calls += [(common, seven, seven), (common, molecule([atom()] * 7), seven)]
        for call in calls:
            self.assertLess(self.depth(*call), 20)


if __name__ == "__main__":
    unittest.main()
