"""The calls: each takes forms and numbers, and answers a list of numbers."""

from moleculeparts.forms import FormFault
from moleculeparts.maps import maps_of, places_of
from moleculeparts.molecules import read_molecule
from moleculeparts.patterns import cut_pattern, own_pattern, pattern_form, read_pattern

ANSWERED = 0
NOT_RISING = -1
FAULTY_FORM = -5

FIRST_FORM = 0
SECOND_FORM = 1


def judge(pattern):
    try:
        wanted = read_pattern(pattern, FIRST_FORM)
    except FormFault as fault:
        return fault_answer(fault)
    return [ANSWERED, len(wanted.atoms), len(wanted.bonds)]


def own(molecule):
    try:
        given = read_molecule(molecule, FIRST_FORM)
    except FormFault as fault:
        return fault_answer(fault)
    return row_answer(pattern_form(own_pattern(given)))


def cut(molecule, atoms):
    try:
        given = read_molecule(molecule, FIRST_FORM)
    except FormFault as fault:
        return fault_answer(fault)
    if not are_rising_below(atoms, len(given.atoms)):
        return [NOT_RISING]
    return row_answer(pattern_form(cut_pattern(given, atoms)))


def count(pattern, molecule):
    try:
        wanted = read_pattern(pattern, FIRST_FORM)
        given = read_molecule(molecule, SECOND_FORM)
    except FormFault as fault:
        return fault_answer(fault)
    maps = maps_of(wanted, given)
    return [ANSWERED, len(maps), len(places_of(maps))]


def fault_answer(fault):
    return [FAULTY_FORM, fault.which, fault.rule, fault.place]


def row_answer(row):
    return [ANSWERED, len(row)] + row


def are_rising_below(atoms, n):
    before = -1
    for atom in atoms:
        if atom <= before or atom >= n:
            return False
        before = atom
    return True
