"""Redrawings: other orders of a molecule's bonds that leave every atom its sum."""

LEAST_ORDER = 1
GREATEST_ORDER = 3
ORDERS = (1, 2, 3)


def order_bit(order):
    return 1 << (order - 1)


def order_sums(n, bonds):
    sums = [0] * n
    for bond in bonds:
        sums[bond.a] += bond.order
        sums[bond.b] += bond.order
    return sums


# A state is what is left of each atom's sum for the bonds that are still to come. Ways to come to the same state
# go on alike, so the states are kept, not the ways.
def redrawn_orders(sums, bonds):
    levels = [{tuple(sums): True}]
    for k in range(len(bonds)):
        levels.append(states_behind(levels[k], bonds, k))
    found = [0] * len(bonds)
    ending_well = levels[len(bonds)]
    for k in range(len(bonds) - 1, -1, -1):
        ahead = {}
        for state in levels[k]:
            for order in ORDERS:
                if less_order(state, bonds[k], order) in ending_well:
                    found[k] = found[k] | order_bit(order)
                    ahead[state] = True
        ending_well = ahead
    return found


def states_behind(states, bonds, k):
    bond = bonds[k]
    at_a = bonds_behind(bonds, k, bond.a)
    at_b = bonds_behind(bonds, k, bond.b)
    found = {}
    for state in states:
        for order in ORDERS:
            left = less_order(state, bond, order)
            if can_be_met(left[bond.a], at_a) and can_be_met(left[bond.b], at_b):
                found[left] = True
    return found


def less_order(state, bond, order):
    left = list(state)
    left[bond.a] -= order
    left[bond.b] -= order
    return tuple(left)


def bonds_behind(bonds, k, atom):
    return len([bond for bond in bonds[k + 1:] if atom == bond.a or atom == bond.b])


def can_be_met(left, bonds):
    return LEAST_ORDER * bonds <= left <= GREATEST_ORDER * bonds
