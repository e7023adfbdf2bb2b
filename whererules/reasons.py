"""Reasons: which of the facts about a draft are needed for a clash or a goal. How facts are told stands in grids."""


def needed_facts(question, facts, goal):
    """A list that tells of each fact whether it is needed.

    The goal is the number of a cell whose value is asked for, or None for the clash that the last fact makes.
    """
    columns, rules, _ = question
    links, valued = {}, {}
    for number in range(len(facts)):
        add_fact(links, valued, number, facts[number])
    needed = [False] * len(facts)
    if goal is None:
        needed[-1] = True
    else:
        need_value(links, valued, needed, goal)
    # What a fact needs comes before it: so the last one is looked at first.
    for number in reversed(range(len(facts))):
        drop_fact(links, valued, facts[number])
        if needed[number]:
            need_reasons(links, valued, needed, reasons_of(rules, len(columns), facts[number][0]))
            if goal is None and number == len(facts) - 1:
                need_reasons(links, valued, needed, reasons_of_clash(facts[number]))
    return needed


def add_fact(links, valued, number, fact):
    """Adds a fact to the links of each cell with others, or to the facts that tell its value."""
    _, cell, other = fact
    if other is None:
        valued.setdefault(cell, []).append(number)
    else:
        links.setdefault(cell, []).append((number, other))
        links.setdefault(other, []).append((number, cell))


def drop_fact(links, valued, fact):
    """Removes the fact that was added last."""
    _, cell, other = fact
    if other is None:
        valued[cell].pop()
    else:
        links[cell].pop()
        links[other].pop()


def reasons_of(rules, width, head):
    """What a step or a join needs: tuples (cell, None) for a value, (cell, other) for two equal cells."""
    if head is None or head[0] == "split":
        return []
    given = rules[head[1]][0]
    found = []
    for column, value in given:
        cells = [row * width + column for row in head[2:]]
        if value is None:
            found.append((cells[0], cells[1]))
        else:
            found.extend([(cell, None) for cell in cells])
    return found


def reasons_of_clash(fact):
    """What a clash needs besides the fact that makes it: the values that its cells had before."""
    _, cell, other = fact
    if other is None:
        return [(cell, None)]
    return [(cell, None), (other, None)]


def need_reasons(links, valued, needed, found):
    """Marks the facts that are needed for all of the reasons."""
    for cell, other in found:
        if other is None:
            need_value(links, valued, needed, cell)
        else:
            need_equal(links, valued, needed, cell, other)


def need_value(links, valued, needed, cell):
    """Marks the facts over which the value of the cell is known."""
    ways = ways_from(links, cell)
    for there in ways:
        if len(valued.get(there, [])) > 0:
            for number in ways[there] + [valued[there][0]]:
                needed[number] = True
            return


def need_equal(links, valued, needed, cell, other):
    """Marks the facts over which the two cells are known to be equal."""
    ways = ways_from(links, cell)
    if other in ways:
        for number in ways[other]:
            needed[number] = True
    else:
        need_value(links, valued, needed, cell)
        need_value(links, valued, needed, other)


def ways_from(links, start):
    """For each cell that is linked with this one, the nearest first: the numbers of the facts in between."""
    ways = {start: []}
    waiting = [start]
    while len(waiting) > 0:
        cell = waiting.pop(0)
        for number, other in links.get(cell, []):
            if other not in ways:
                ways[other] = ways[cell] + [number]
                waiting.append(other)
    return ways
