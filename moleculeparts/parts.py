"""The calls: each takes forms and numbers, and answers a list of numbers."""

from moleculeparts.forms import FormFault
from moleculeparts.maps import covered_marks, maps_of, places_of
from moleculeparts.molecules import read_molecule
from moleculeparts.partners import greatest_part
from moleculeparts.patterns import cut_pattern, own_pattern, pattern_form, read_pattern
from moleculeparts.rings import least_basis_lengths, least_through_atoms, least_through_bonds, short_rings

ANSWERED = 0
NOT_RISING = -1
NO_MORE = -2
FAULTY_FORM = -5

FIRST_FORM = 0
SECOND_FORM = 1


def judge(pattern):
    try:
        wanted = read_pattern(pattern, FIRST_FORM)
    except FormFault as fault:
        return fault_answer(fault)
    return [ANSWERED, len(wanted.atoms), len(wanted.bonds)]


def own(molecule):
    try:
        given = read_molecule(molecule, FIRST_FORM)
    except FormFault as fault:
        return fault_answer(fault)
    return row_answer(pattern_form(own_pattern(given)))


def cut(molecule, atoms):
    try:
        given = read_molecule(molecule, FIRST_FORM)
    except FormFault as fault:
        return fault_answer(fault)
    if not are_rising_below(atoms, len(given.atoms)):
        return [NOT_RISING]
    return row_answer(pattern_form(cut_pattern(given, atoms)))


def count(pattern, molecule):
    try:
        maps = maps_between(pattern, molecule)
    except FormFault as fault:
        return fault_answer(fault)
    return [ANSWERED, len(maps), len(places_of(maps))]


# The words' call map: Python has a name like that of its own.
def map_of(k, pattern, molecule):
    try:
        maps = maps_between(pattern, molecule)
    except FormFault as fault:
        return fault_answer(fault)
    return answer_of_one(k, maps)


def place(k, pattern, molecule):
    try:
        maps = maps_between(pattern, molecule)
    except FormFault as fault:
        return fault_answer(fault)
    return answer_of_one(k, places_of(maps))


def covered(pattern, molecule):
    try:
        wanted = read_pattern(pattern, FIRST_FORM)
        given = read_molecule(molecule, SECOND_FORM)
    except FormFault as fault:
        return fault_answer(fault)
    return row_answer(covered_marks(maps_of(wanted, given), len(given.atoms)))


def common(molecule, another):
    try:
        one = read_molecule(molecule, FIRST_FORM)
        other = read_molecule(another, SECOND_FORM)
    except FormFault as fault:
        return fault_answer(fault)
    return row_answer(greatest_part(one, other))


def sizes(molecule):
    try:
        given = read_molecule(molecule, FIRST_FORM)
    except FormFault as fault:
        return fault_answer(fault)
    return row_answer(least_basis_lengths(given))


def short(k, molecule):
    try:
        given = read_molecule(molecule, FIRST_FORM)
    except FormFault as fault:
        return fault_answer(fault)
    return answer_of_one(k, short_rings(given))


def least(molecule):
    try:
        given = read_molecule(molecule, FIRST_FORM)
    except FormFault as fault:
        return fault_answer(fault)
    through_bonds = least_through_bonds(given)
    return row_answer(least_through_atoms(given, through_bonds) + through_bonds)


def maps_between(pattern, molecule):
    wanted = read_pattern(pattern, FIRST_FORM)
    given = read_molecule(molecule, SECOND_FORM)
    return maps_of(wanted, given)


def fault_answer(fault):
    return [FAULTY_FORM, fault.which, fault.rule, fault.place]


def row_answer(row):
    return [ANSWERED, len(row)] + row


def answer_of_one(k, rows):
    if k >= len(rows):
        return [NO_MORE]
    return row_answer(rows[k])


def are_rising_below(atoms, n):
    before = -1
    for atom in atoms:
        if atom <= before or atom >= n:
            return False
        before = atom
    return True
