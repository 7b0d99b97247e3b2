import random
import unittest

from moleculeparts.forms import FormFault
from moleculeparts.parts import judge
from moleculeparts.patterns import pattern_form, read_pattern
from tests.helper import PATTERN_MARK, ask, joined, low_high, pattern, said, with_byte

# One atom with two elements and all its numbers in the midst of their bounds, told as name, first byte, size.
ATOM_FIELDS = (
    ("how many named", 6, 1), ("first named", 7, 1), ("second named", 8, 1), ("isotope", 9, 2),
    ("least charge", 11, 1), ("greatest charge", 12, 1), ("least hydrogens", 13, 1), ("greatest hydrogens", 14, 1),
    ("least neighbours", 15, 1), ("greatest neighbours", 16, 1), ("least sum", 17, 2), ("greatest sum", 19, 2),
    ("ring", 21, 1), ("hand", 22, 1),
)


def one_atom(values):
    form = PATTERN_MARK + [1, 0]
    for (name, place, size), value in zip(ATOM_FIELDS, values):
        form = form + (low_high(value) if size == 2 else [value])
    return form


MIDST = (2, 6, 8, 300, 2, 6, 2, 5, 10, 100, 100, 300, 1, 3)

STAR3 = [joined(0, 1), joined(0, 2), joined(0, 3)]


class JudgeTest(unittest.TestCase):
    def judged(self, form, *answer):
        self.assertEqual(ask(self, judge, form), list(answer))

    def faulty(self, form, rule, place):
        self.judged(form, -5, 0, rule, place)


class WellMadeTest(JudgeTest):
    def test_no_atoms(self):
        self.judged([70, 75, 80, 49, 0, 0], 0, 0, 0)

    def test_atoms_without_bonds(self):
        self.judged(pattern([said()]), 0, 1, 0)
        self.judged(pattern([said()] * 7), 0, 7, 0)

    def test_several_elements(self):
        self.judged(pattern([said((1, 118)), said(range(1, 9)), said(range(111, 119)), said((7,))]), 0, 4, 0)

    def test_bonds(self):
        self.judged(pattern([said()] * 3, [joined(0, 1), joined(0, 2), joined(1, 2)]), 0, 3, 3)

    def test_hands(self):
        four = [joined(0, 4), joined(1, 4), joined(2, 4), joined(3, 4)]
        for hand in (0, 1, 2, 3):
            self.judged(pattern([said(hand=hand)] + [said()] * 3, STAR3), 0, 4, 3)
            self.judged(pattern([said()] * 4 + [said(hand=hand)], four), 0, 5, 4)

    def test_sides(self):
        for side in (0, 1, 2, 3):
            self.judged(pattern([said()] * 4, [joined(0, 1), joined(1, 2, side=side), joined(2, 3)]), 0, 4, 3)

    def test_the_most_there_may_be(self):
        pairs = [(a, b) for a in range(128) for b in range(a + 1, 128)][:192]
        form = pattern([said(range(1, 9))] * 128, [joined(a, b) for a, b in pairs])
        self.assertEqual(len(form), 4102)
        self.judged(form, 0, 128, 192)

    def test_least_and_greatest_may_be_one(self):
        one = said((6,), 0, (4, 4), (7, 7), (127, 127), (381, 381), 2, 3)
        self.judged(pattern([one]), 0, 1, 0)

    def test_what_is_judged_is_written_the_same(self):
        lot = random.Random(11)
        for k in range(60):
            form = some_pattern_form(lot)
            self.assertEqual(ask(self, judge, form)[0], 0)
            self.assertEqual(pattern_form(read_pattern(form, 0)), form)


def some_pattern_form(lot):
    def some_range(low, high):
        return tuple(sorted((lot.randint(low, high), lot.randint(low, high))))

    n = lot.randint(0, 6)
    atoms = []
    for k in range(n):
        named = sorted(lot.sample(range(1, 119), lot.randint(0, 8)))
        atoms.append(said(named, lot.randint(0, 501), some_range(-4, 4), some_range(0, 7), some_range(0, 127),
                          some_range(0, 381), lot.randint(0, 2), lot.choice((0, 3))))
    bonds = []
    for a in range(n):
        for b in range(a + 1, n):
            if lot.random() < 0.4:
                numbers = lot.randint(1, 7), lot.randint(0, 1), lot.randint(0, 2), lot.choice((0, 3))
                bonds.append(joined(a, b, *numbers))
    return pattern(atoms, bonds)


class MarkTest(JudgeTest):
    def test_each_byte(self):
        for place in range(4):
            for byte in (0, 255, PATTERN_MARK[place] - 1, PATTERN_MARK[place] + 1):
                self.faulty(with_byte(pattern([said()]), place, byte), 1, place)

    def test_the_first_wrong_one_is_told(self):
        self.faulty([70, 0, 0, 0], 1, 1)
        self.faulty([0, 75], 1, 0)
        self.faulty([70, 75, 77, 49, 0, 0], 1, 2)


class BoundsTest(JudgeTest):
    def field(self, name, inside, outside, **others):
        names = [x[0] for x in ATOM_FIELDS]
        place = dict((x[0], x[1]) for x in ATOM_FIELDS)[name]
        values = list(MIDST)
        for other, value in others.items():
            values[names.index(other.replace("_", " "))] = value
        for value in inside + outside:
            values[names.index(name)] = value
            if value in inside:
                self.judged(one_atom(values), 0, 1, 0)
            else:
                self.faulty(one_atom(values), 2, place)

    def test_numbers_of_atoms_and_bonds(self):
        self.judged(pattern([said()] * 128), 0, 128, 0)
        self.faulty(PATTERN_MARK + [129, 0], 2, 4)
        self.faulty(PATTERN_MARK + [129], 2, 4)
        self.faulty(PATTERN_MARK + [255, 255], 2, 4)
        self.faulty(PATTERN_MARK + [0, 193], 2, 5)
        self.faulty(PATTERN_MARK + [128, 255], 2, 5)
        self.faulty(PATTERN_MARK + [128, 192], 5, 6)

    def test_how_many_are_named(self):
        self.judged(pattern([said(range(1, 9))]), 0, 1, 0)
        self.judged(pattern([said()]), 0, 1, 0)
        self.faulty(pattern([said(range(1, 10))]), 2, 6)
        self.faulty(PATTERN_MARK + [1, 0, 255], 2, 6)

    def test_elements(self):
        self.field("first named", [1, 6, 7], [0, 119, 255])
        self.field("second named", [7, 118], [0, 1, 5, 6, 119, 255])

    def test_third_element_is_above_the_second(self):
        self.judged(pattern([said((6, 8, 9))]), 0, 1, 0)
        self.faulty(pattern([said((6, 8, 8))]), 2, 9)
        self.faulty(pattern([said((6, 8, 7))]), 2, 9)

    def test_second_atoms_elements_begin_anew(self):
        self.judged(pattern([said((8,)), said((7,))]), 0, 2, 0)

    def test_isotope(self):
        self.field("isotope", [0, 1, 255, 256, 500, 501], [502, 511, 512, 65535])

    def test_charge(self):
        self.field("least charge", [0, 6], [9, 255])
        self.field("greatest charge", [2, 8], [0, 1, 9, 255])
        self.field("least charge", [8], [9], greatest_charge=8)

    def test_hydrogens(self):
        self.field("least hydrogens", [0, 5], [8, 255])
        self.field("greatest hydrogens", [2, 7], [0, 1, 8, 255])
        self.field("least hydrogens", [7], [8], greatest_hydrogens=7)

    def test_neighbours(self):
        self.field("least neighbours", [0, 100], [128, 255])
        self.field("greatest neighbours", [10, 127], [0, 9, 128, 255])
        self.field("least neighbours", [127], [128], greatest_neighbours=127)

    def test_sum(self):
        self.field("least sum", [0, 255, 256, 300], [382, 512, 65535])
        self.field("greatest sum", [100, 255, 256, 381], [0, 99, 382, 512, 65535])
        self.field("least sum", [381], [382], greatest_sum=381)

    def test_a_greatest_below_its_least_is_told_at_the_greatest(self):
        self.field("greatest charge", [8], [7, 0], least_charge=8)
        self.field("greatest hydrogens", [7], [6, 0], least_hydrogens=7)
        self.field("greatest neighbours", [127], [126, 0], least_neighbours=127)
        self.field("greatest sum", [381], [380, 256, 255, 0], least_sum=381)

    def test_ring_and_hand(self):
        self.field("ring", [0, 1, 2], [3, 255])
        self.field("hand", [0, 3], [4, 255])

    def bond_byte(self, place, inside, outside):
        form = pattern([said()] * 5, [joined(0, 1), joined(1, 2), joined(2, 3), joined(3, 4)])
        first = len(form) - 18
        for byte in inside:
            self.judged(with_byte(form, first + place, byte), 0, 5, 4)
        for byte in outside:
            self.faulty(with_byte(form, first + place, byte), 2, first + place)

    def test_bonds(self):
        self.bond_byte(0, [0, 1], [5, 6, 255])
        self.bond_byte(1, [2, 3, 4], [0, 1, 5, 255])
        self.bond_byte(2, [1, 2, 3, 4, 5, 6, 7], [0, 8, 255])
        self.bond_byte(3, [0, 1], [2, 255])
        self.bond_byte(4, [0, 1, 2], [3, 255])
        self.bond_byte(5, [0, 1, 2, 3], [4, 255])

    def test_a_is_below_n_though_nothing_is_above_it(self):
        form = pattern([said()] * 3, [joined(0, 1)])
        first = len(form) - 6
        self.faulty(with_byte(form, first, 3), 2, first)
        self.faulty(with_byte(form, first, 2), 2, first + 1)
        self.faulty(with_byte(form, first, 1), 2, first + 1)

    def test_no_atoms_let_no_bonds_be(self):
        self.faulty(PATTERN_MARK + [0, 1, 0, 1, 7, 0, 0, 0], 2, 6)
        self.faulty(PATTERN_MARK + [0, 1], 5, 6)


class OrderOfBondsTest(JudgeTest):
    def test_not_behind_the_one_before(self):
        for before, behind in (((0, 1), (0, 1)), ((1, 2), (0, 3)), ((0, 2), (0, 1)), ((1, 3), (0, 3))):
            form = pattern([said()] * 4, [joined(*before), joined(*behind)])
            self.faulty(form, 3, len(form) - 6)

    def test_asked_of_the_one_before_alone(self):
        form = pattern([said()] * 4, [joined(0, 1), joined(2, 3), joined(1, 2), joined(0, 1)])
        self.faulty(form, 3, len(form) - 12)

    def test_asked_when_a_and_b_are_read(self):
        form = pattern([said()] * 4, [joined(1, 2), joined(0, 3)])
        self.faulty(form[:-5], 5, len(form) - 5)
        self.faulty(form[:-4], 3, len(form) - 6)
        self.faulty(with_byte(form, len(form) - 5, 4), 2, len(form) - 5)
        self.faulty(with_byte(form, len(form) - 5, 0), 2, len(form) - 5)
        self.faulty(with_byte(form, len(form) - 4, 0), 3, len(form) - 6)


class EndTest(JudgeTest):
    def test_empty(self):
        self.faulty([], 5, 0)

    def test_ends_at_every_place(self):
        atoms = [said((6, 7), hand=1), said((), 13), said((8,)), said()]
        form = pattern(atoms, [joined(0, 1, side=3), joined(0, 2), joined(0, 3)])
        self.judged(form, 0, 4, 3)
        for end in range(len(form)):
            self.faulty(form[:end], 5, end)

    def test_half_a_number_is_not_judged(self):
        form = one_atom(MIDST)
        self.faulty(form[:9] + [255], 5, 10)
        self.faulty(form[:17] + [255], 5, 18)
        self.faulty(form[:19] + [0], 5, 20)

    def test_left_over(self):
        for form in (pattern([]), pattern([said()]), pattern([said()] * 4, STAR3)):
            self.faulty(form + [0], 7, len(form))
            self.faulty(form + [1, 2, 3], 7, len(form))
            self.faulty(form + [0] * (6000 - len(form)), 7, len(form))


class HandAndSideTest(JudgeTest):
    def hand_place(self, k):
        return 6 + 17 * k + 16

    def test_hand_needs_three_or_four_neighbours(self):
        for hand in (1, 2):
            for count in range(7):
                atoms = [said((6, 7), hand=hand)] + [said((6, 7))] * 6
                form = pattern(atoms, [joined(0, k + 1) for k in range(count)])
                if count in (3, 4):
                    self.judged(form, 0, 7, count)
                else:
                    self.faulty(form, 4, self.hand_place(0))

    def test_neighbours_on_both_sides_count(self):
        atoms = [said((6, 7))] * 2 + [said((6, 7), hand=1)] + [said((6, 7))]
        self.judged(pattern(atoms, [joined(0, 2), joined(1, 2), joined(2, 3)]), 0, 4, 3)
        self.faulty(pattern(atoms, [joined(0, 2), joined(1, 2)]), 4, self.hand_place(2))

    def test_hands_0_and_3_need_nothing(self):
        self.judged(pattern([said(hand=0), said(hand=3)]), 0, 2, 0)

    def test_first_such_hand(self):
        atoms = [said((6, 7), hand=2)] + [said((6, 7))] + [said((6, 7), hand=1)] * 2
        self.faulty(pattern(atoms, STAR3), 4, self.hand_place(2))

    def test_side_needs_one_or_two_besides(self):
        for side in (1, 2):
            for at_a in range(4):
                for at_b in range(4):
                    bonds = [joined(0, 1, side=side)] + [joined(0, 2 + k) for k in range(at_a)]
                    form = pattern([said()] * 8, bonds + [joined(1, 5 + k) for k in range(at_b)])
                    if at_a in (1, 2) and at_b in (1, 2):
                        self.judged(form, 0, 8, 1 + at_a + at_b)
                    else:
                        self.faulty(form, 6, 6 + 8 * 15 + 5)

    def test_one_neighbour_may_be_besides_both(self):
        self.judged(pattern([said()] * 3, [joined(0, 1, side=2), joined(0, 2), joined(1, 2)]), 0, 3, 3)

    def test_sides_0_and_3_need_nothing(self):
        self.judged(pattern([said()] * 3, [joined(0, 1, side=3), joined(0, 2)]), 0, 3, 2)

    def test_first_such_side(self):
        bonds = [joined(0, 1), joined(1, 2, side=1), joined(2, 3, side=1), joined(3, 4, side=1)]
        form = pattern([said()] * 5, bonds)
        self.faulty(form, 6, len(form) - 1)
        bonds[0] = joined(0, 1, side=2)
        self.faulty(pattern([said()] * 5, bonds), 6, len(form) - 19)


class WhichFaultTest(JudgeTest):
    def test_the_one_met_first_from_front_to_back(self):
        # Atoms from 6, 21, 36, 51; bonds from 66, 72, 78; a byte left over at 84.
        form = pattern([said(hand=1)] * 4, [joined(0, 1, side=1), joined(0, 2), joined(0, 3)]) + [9]
        self.faulty(form, 7, 84)
        # From the back to the front each new fault is told in the place of those behind it.
        for place, byte, rule, told in (
            (83, 4, 2, 83), (79, 2, 3, 78), (77, 4, 2, 77), (73, 0, 2, 73), (68, 0, 2, 68), (50, 4, 2, 50),
            (46, 2, 2, 45), (8, 2, 2, 7), (5, 193, 2, 5), (4, 129, 2, 4), (3, 0, 1, 3), (0, 0, 1, 0),
        ):
            form = with_byte(form, place, byte)
            self.faulty(form, rule, told)

    def test_hand_only_if_nothing_is_met_before(self):
        form = pattern([said(hand=1), said()], [joined(0, 1, side=1)])
        hand = 6 + 14
        self.faulty(form, 4, hand)
        self.faulty(form + [0], 7, len(form))
        self.faulty(form[:-1], 5, len(form) - 1)
        self.faulty(with_byte(form, len(form) - 2, 3), 2, len(form) - 2)
        self.faulty(with_byte(form, 2, 3), 1, 2)
        twice = pattern([said(hand=1), said()], [joined(0, 1), joined(0, 1)])
        self.faulty(twice, 3, len(twice) - 6)

    def test_side_only_if_no_hand(self):
        form = pattern([said(), said()], [joined(0, 1, side=1)])
        self.faulty(form, 6, len(form) - 1)
        self.faulty(form + [0], 7, len(form))
        self.faulty(with_byte(form, 6 + 15 + 14, 2), 4, 6 + 15 + 14)
        self.faulty(with_byte(form, len(form) - 3, 2), 2, len(form) - 3)
        self.faulty(with_byte(form, 1, 3), 1, 1)

    def test_any_bytes_are_answered(self):
        lot = random.Random(12)
        base = pattern([said((6,)), said(), said((7, 8)), said()], STAR3)
        for k in range(400):
            form = list(base)
            for j in range(lot.randint(1, 3)):
                form[lot.randrange(len(form))] = lot.choice((0, 1, 2, 3, lot.randint(0, 255)))
            form = form[:lot.choice((len(form), lot.randint(0, len(form))))]
            answer = ask(self, judge, form)
            self.assertIn(answer[0], (0, -5))
            self.assertEqual(len(answer), 3 if answer[0] == 0 else 4)
            if answer[0] == 0:
                self.assertEqual(pattern_form(read_pattern(form, 0)), form)
            else:
                self.assertRaises(FormFault, read_pattern, form, 0)


if __name__ == "__main__":
    unittest.main()
