"""Names of rows and rules, in the places of their numbers."""

from whererules.columns import is_integer
from whererules.errors import InvalidNumber


def place_of(names, name):
    """The number of what has the name. Raises InvalidNumber if the argument is none of the names."""
    if not is_integer(name) or name not in names:
        raise InvalidNumber("there is nothing with this name")
    return names.index(name)


def named_break(rule_names, row_names, told):
    """The break with names in the places of numbers."""
    return (rule_names[told[0]],) + tuple([row_names[row] for row in told[1:]])


def named_tree(names, tree):
    """The tree with names of rules in the places of their numbers."""
    if tree[0] == "split":
        return tree[:3] + (tuple([named_tree(names, part) for part in tree[3]]),)
    if tree[0] in ("step", "join"):
        return (tree[0], names[tree[1]]) + tree[2:-1] + (named_tree(names, tree[-1]),)
    return tree


def names_in_tree(tree):
    """A list of the names, or the numbers, of all rules in the tree, some perhaps more than once."""
    names = []
    if tree[0] == "split":
        for part in tree[3]:
            names.extend(names_in_tree(part))
    elif tree[0] in ("step", "join"):
        names.append(tree[1])
        names.extend(names_in_tree(tree[-1]))
    return names


def renamed_war(rules, rows, tree):
    """The tree of a draft with other numbers: of rules as rules tells, of rows as rows tells.

    Both are tuples of names, or dicts. In a dict there may be no number for one: then a KeyError is raised.
    """
    if tree[0] == "split":
        parts = tuple([renamed_war(rules, rows, part) for part in tree[3]])
        return ("split", rows[tree[1]], tree[2], parts)
    if tree[0] in ("step", "join"):
        told = tuple([rows[row] for row in tree[2:-1]])
        return (tree[0], rules[tree[1]]) + told + (renamed_war(rules, rows, tree[-1]),)
    return tree


def renamed_cells(rows, cells):
    """The cells with other numbers of rows, as in renamed_war."""
    return tuple([(rows[row], column) for row, column in cells])


def renamed_price_tree(rules, rows, tree):
    """The price tree with other numbers, as in renamed_war."""
    if tree is None or len(tree) == 0:
        return tree
    cells, war, trees = tree
    parts = tuple([renamed_price_tree(rules, rows, part) for part in trees])
    return (renamed_cells(rows, cells), renamed_war(rules, rows, war), parts)


def places_of(names):
    """The dict of the number of each of the names."""
    return {names[place]: place for place in range(len(names))}
