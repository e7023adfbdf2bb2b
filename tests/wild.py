"""Trees that are grown at random, right or not, with steps, joins and splits that need not be of use."""

import oracle
import oracle_drafts


def wild_tree(dice, rules, known, goal, depth):
    """A tree that is right as often as not."""
    if known.clash():
        return ("clash",) if dice.random() < 0.95 else ("goal",)
    if goal(known) and dice.random() < 0.7:
        return ("goal",)
    heads = possible_moves(rules, known) + possible_splits(known)
    if not heads or depth == 0:
        return dice.choice([("goal",), ("clash",)])
    head = dice.choice(heads)
    if dice.random() < 0.02:
        head = spoiled(dice, head)
    if head[0] == "step":
        fact = ((head[2] % known.rows, rules[head[1] % len(rules)][1]), rules[head[1] % len(rules)][2])
        return head + (wild_tree(dice, rules, known.and_also(fact), goal, depth - 1),)
    if head[0] == "join":
        column = rules[head[1] % len(rules)][1]
        return head + (wild_tree(dice, rules, known.and_also(((0, column), (1, column))), goal, depth - 1),)
    cell = (head[1] % known.rows, head[2] % len(known.columns))
    values = known.columns[cell[1]] or (0,)
    trees = [wild_tree(dice, rules, known.and_also((cell, value)), goal, depth - 1) for value in values]
    return head + (tuple(trees),)


def possible_moves(rules, known):
    """The heads of all steps and joins that are possible, of use or not."""
    heads = [("step", k, row) for k in range(len(rules)) for row in range(known.rows)
             if oracle.step_fits(rules, known, k, row)]
    return heads + [("join", k) for k in range(len(rules)) if oracle.join_fits(rules, known, k)]


def possible_splits(known):
    """The heads of the splits of all cells in closed columns."""
    return [("split",) + cell for cell in known.cells if known.columns[cell[1]] is not None]


def spoiled(dice, head):
    """The head with one number exchanged."""
    place = dice.randrange(1, len(head))
    return head[:place] + (head[place] + dice.choice([1, -1]),) + head[place + 1:]


def wild_draft_tree(dice, rules, told, goal, depth):
    """A tree of a draft that is right as often as not."""
    if told.clash():
        return ("clash",) if dice.random() < 0.97 else ("goal",)
    if goal(told) and dice.random() < 0.7:
        return ("goal",)
    heads = draft_heads(rules, told)
    if not heads or depth == 0:
        return dice.choice([("goal",), ("clash",)])
    head = dice.choice(heads)
    right = head if dice.random() < 0.98 else spoiled(dice, head)
    if head[0] != "split":
        more, _ = oracle_drafts.behind(rules, told, head)
        return right + (wild_draft_tree(dice, rules, more, goal, depth - 1),)
    trees = []
    for value in told.columns[head[2]]:
        more, _ = oracle_drafts.behind(rules, told, head + (value,))
        trees.append(wild_draft_tree(dice, rules, more, goal, depth - 1))
    return right + (tuple(trees),)


def draft_heads(rules, told):
    """The heads of all steps, joins and splits that are possible; those that are of use more than once."""
    rows = range(told.rows)
    heads = [("step", k, row) for k in range(len(rules)) for row in rows
             if oracle_drafts.step_fits(rules, told, k, row)]
    heads += [("join", k, one, other) for k in range(len(rules)) for one in rows for other in rows
              if oracle_drafts.join_fits(rules, told, k, one, other)]
    useful = [head for head in heads if oracle_drafts.behind(rules, told, head)[1]]
    closed = [("split", row, column) for row in rows for column, values in enumerate(told.columns) if values is not None]
    return heads + useful * 9 + closed
