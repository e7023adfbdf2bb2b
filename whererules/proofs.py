"""Brisk trees of drafts: wars and forces, without steps, joins and splits from which nothing in them comes.

A question is a tuple (columns, rules, goal). The goal is None for wars, and (cell, value) for
forces, with the number of the cell. How cells, grids and facts are told stands in grids.
"""

from whererules.grids import draft_facts, draft_grid, next_split, settle, with_mark
from whererules.reasons import needed_facts


def prove_draft(columns, rules, draft, goal):
    """A brisk tree that is right in the case of the draft, and None.

    If there is none: None, and a grid in which all is known that is known in the case, with values for
    all closed cells, no goal, and no step or join that makes anything known.
    """
    tree, _, left = prove_grid((columns, rules, goal), draft_grid(draft), draft_facts(draft))
    return tree, left


def prove_grid(question, grid, facts):
    """The tree, the list that tells of each fact whether the tree needs it, and None; or None, None and a grid."""
    columns, rules, goal = question
    many = len(facts)
    # What is found out here, and further on, is added to a list of its own.
    facts = list(facts)
    grid = settle(rules, len(columns), grid, facts)
    if grid is None:
        tree, needed, left = ("clash",), needed_facts(question, facts, None), None
    elif goal is not None and grid[goal[0]] == goal[1]:
        tree, needed, left = ("goal",), needed_facts(question, facts, goal[0]), None
    else:
        tree, needed, left = prove_split(question, grid, facts)
        if tree is None:
            return None, None, left
    for number in reversed(range(many, len(facts))):
        if needed[number]:
            tree = facts[number][0] + (tree,)
    return tree, needed[:many], None


def prove_split(question, grid, facts):
    """What prove_grid returns, where no step and no join makes anything known."""
    columns = question[0]
    cell = next_split(columns, grid)
    if cell is None:
        return None, None, grid
    row, column = cell // len(columns), cell % len(columns)
    needed, trees = [False] * len(facts), []
    for value in columns[column]:
        split = (("split", row, column), cell, None)
        tree, told, left = prove_grid(question, with_mark(grid, cell, value), facts + [split])
        if tree is None:
            return None, None, left
        if not told[-1]:
            # The value was of no use, so that this tree alone will do.
            return tree, told[:-1], None
        needed = [one or other for one, other in zip(needed, told)]
        trees.append(tree)
    return ("split", row, column, tuple(trees)), needed, None
