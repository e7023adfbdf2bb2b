"""What DOC.md says of records: the conditions of each form, in their order."""

import oracle
from oracle_drafts import (
    all_cells, differing, draft_of, is_filling, is_force, is_war, right_cell, right_draft, right_small, right_some)
from oracle_mends import cost_of, is_mend, is_mend_in, price_tree_judged, right_costs


def conditions_of(record):
    """The conditions of a record of one of the forms, with right columns and rules."""
    form, columns, rules, *rest = record
    return FORMS[form](columns, rules, *rest)


def filled_conditions(columns, rules, draft, table):
    return [lambda: right_draft(columns, draft), lambda: is_filling(columns, rules, draft, table)]


def unfilled_conditions(columns, rules, draft, tree):
    return [lambda: right_draft(columns, draft), lambda: is_war(columns, rules, draft, tree)]


def forced_conditions(columns, rules, draft, cell, table, tree):
    return [lambda: right_draft(columns, draft), lambda: right_cell(draft, cell),
            lambda: is_filling(columns, rules, draft, table),
            lambda: is_force(columns, rules, draft, cell, table[cell[0]][cell[1]], tree)]


def unforced_conditions(columns, rules, draft, cell, first, second):
    return [lambda: right_draft(columns, draft), lambda: right_cell(draft, cell),
            lambda: is_filling(columns, rules, draft, first), lambda: is_filling(columns, rules, draft, second),
            lambda: first[cell[0]][cell[1]] != second[cell[0]][cell[1]]]


def small_and_cells(columns, small, cells):
    return [lambda: right_small(columns, small), lambda: right_some(small, cells)]


def blame_conditions(columns, rules, small, cells, war, fillings):
    def filled():
        if type(fillings) is not tuple or len(fillings) != len(cells):
            return False
        rests = [draft_of(small, [cell for cell in cells if cell != one]) for one in cells]
        return all(is_filling(columns, rules, rest, table) for rest, table in zip(rests, fillings))

    return small_and_cells(columns, small, cells) + [
        lambda: is_war(columns, rules, draft_of(small, cells), war), filled]


def two(value):
    return type(value) is tuple and len(value) == 2


def war_entry(columns, rules, small, entry):
    """Whether the value is a tuple (some, war)."""
    return two(entry) and right_some(small, entry[0]) and is_war(columns, rules, draft_of(small, entry[0]), entry[1])


def mend_entry(columns, rules, small, entry):
    """Whether the value is a tuple (some, table)."""
    return two(entry) and right_some(small, entry[0]) and is_mend_in(columns, rules, small, entry[0], entry[1])


def correction_conditions(columns, rules, small, cells, table, blamed):
    def told():
        if type(blamed) is not tuple or len(blamed) != len(cells):
            return False
        return all(war_entry(columns, rules, small, entry) and set(entry[0]) & set(cells) == {cell}
                   for cell, entry in zip(cells, blamed))

    return small_and_cells(columns, small, cells) + [lambda: is_mend_in(columns, rules, small, cells, table), told]


def lists_conditions(columns, rules, small, blamed, corrected):
    def entries(value, right):
        return type(value) is tuple and all(right(columns, rules, small, entry) for entry in value)

    def apart(value):
        some = [set(entry[0]) for entry in value]
        return not any(i != j and some[i] <= some[j] for i in range(len(some)) for j in range(len(some)))

    def whole():
        return all(any(set(entry[0]) <= set(some) for entry in blamed)
                   or any(not set(entry[0]) & set(some) for entry in corrected)
                   for some in oracle.subsets(all_cells(small)))

    return [lambda: right_small(columns, small), lambda: entries(blamed, war_entry),
            lambda: entries(corrected, mend_entry), lambda: apart(blamed) and apart(corrected), whole]


def costs_conditions(columns, small, costs, pinned):
    return [lambda: right_small(columns, small), lambda: right_costs(columns, costs), lambda: right_some(small, pinned)]


def cost(costs, small, table):
    return cost_of(costs, differing(small, table))


def mend_conditions(columns, rules, small, costs, pinned, table, tree):
    return costs_conditions(columns, small, costs, pinned) + [
        lambda: is_mend(columns, rules, small, pinned, table),
        lambda: price_tree_judged((columns, rules, small), costs, pinned, (), cost(costs, small, table), tree)]


def held_conditions(columns, rules, small, pinned, war):
    return small_and_cells(columns, small, pinned) + [lambda: is_war(columns, rules, draft_of(small, pinned), war)]


def always_conditions(columns, rules, small, costs, pinned, cell, table, tree):
    return costs_conditions(columns, small, costs, pinned) + [
        lambda: right_cell(small, cell) and cell not in pinned, lambda: is_mend(columns, rules, small, pinned, table),
        lambda: price_tree_judged((columns, rules, small), costs, pinned + (cell,), (),
                                  cost(costs, small, table) + 1, tree)]


def never_conditions(columns, rules, small, costs, pinned, cell, table, tree):
    return costs_conditions(columns, small, costs, pinned) + [
        lambda: right_cell(small, cell) and cell not in pinned, lambda: is_mend(columns, rules, small, pinned, table),
        lambda: price_tree_judged((columns, rules, small), costs, pinned, (cell,),
                                  cost(costs, small, table) + 1 - costs[cell[1]], tree)]


def sometimes_conditions(columns, rules, small, costs, pinned, cell, first, second, tree):
    return costs_conditions(columns, small, costs, pinned) + [
        lambda: right_cell(small, cell),
        lambda: is_mend(columns, rules, small, pinned, first) and cell in differing(small, first),
        lambda: is_mend(columns, rules, small, pinned, second) and cell not in differing(small, second),
        lambda: cost(costs, small, first) == cost(costs, small, second),
        lambda: price_tree_judged((columns, rules, small), costs, pinned, (), cost(costs, small, first), tree)]


FORMS = {
    "filled": filled_conditions, "unfilled": unfilled_conditions, "forced": forced_conditions,
    "unforced": unforced_conditions, "blame": blame_conditions, "correction": correction_conditions,
    "lists": lists_conditions, "mend": mend_conditions, "held": held_conditions, "always": always_conditions,
    "never": never_conditions, "sometimes": sometimes_conditions}
LENGTHS = {
    "filled": 5, "unfilled": 5, "forced": 7, "unforced": 7, "blame": 7, "correction": 7, "lists": 6, "mend": 8,
    "held": 6, "always": 9, "never": 9, "sometimes": 10}
