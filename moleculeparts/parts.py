"""The calls: each takes forms and numbers, and answers a list of numbers."""

from moleculeparts.forms import FormFault
from moleculeparts.molecules import read_molecule
from moleculeparts.patterns import own_pattern, pattern_form, read_pattern

ANSWERED = 0
FAULTY_FORM = -5

FIRST_FORM = 0


def judge(pattern):
    try:
        wanted = read_pattern(pattern, FIRST_FORM)
    except FormFault as fault:
        return fault_answer(fault)
    return [ANSWERED, len(wanted.atoms), len(wanted.bonds)]


def own(molecule):
    try:
        given = read_molecule(molecule, FIRST_FORM)
    except FormFault as fault:
        return fault_answer(fault)
    return row_answer(pattern_form(own_pattern(given)))


def fault_answer(fault):
    return [FAULTY_FORM, fault.which, fault.rule, fault.place]


def row_answer(row):
    return [ANSWERED, len(row)] + row
