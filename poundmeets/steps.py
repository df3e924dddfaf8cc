"""Steps from table to table: one meeting, one pound less or greater."""

from poundmeets.tables import is_table, need_table


def one_off(canal, table):
    """Tell the rising tuple of the tables one step off."""
    need_table(canal, table)
    return tuple(near_tables(canal, table))


def near_tables(canal, table):
    """Tell the rising list of the tables one step off, of a table known to be one."""
    _, ups, downs = canal
    near = [
        changed(table, up, down, by)
        for up in range(ups)
        for down in range(downs)
        for by in (-1, 1)
    ]
    return sorted([other for other in near if is_table(canal, other)])


def changed(table, up, down, by):
    """Tell what becomes of a table when one meeting goes by some pounds."""
    line = table[up]
    line = line[:down] + (line[down] + by,) + line[down + 1 :]
    return table[:up] + (line,) + table[up + 1 :]


def need_tables(canal, one, other):
    """Refuse what is no canal, then what are no two tables of it."""
    need_table(canal, one)
    need_table(canal, other)


def lesser(canal, one, other):
    """Tell the table that has of each two boats the lesser pound."""
    need_tables(canal, one, other)
    return tuple(
        [
            tuple([min(pound, beside) for pound, beside in zip(line, line_beside)])
            for line, line_beside in zip(one, other)
        ]
    )


def greater(canal, one, other):
    """Tell the table that has of each two boats the greater pound."""
    need_tables(canal, one, other)
    return tuple(
        [
            tuple([max(pound, beside) for pound, beside in zip(line, line_beside)])
            for line, line_beside in zip(one, other)
        ]
    )


def how_far(canal, one, other):
    """Tell how many steps, at the fewest, lead from one table to the other."""
    need_tables(canal, one, other)
    return distance(one, other)


def distance(one, other):
    """Tell by how much the pounds of two tables differ, all together."""
    return sum(
        [
            abs(pound - beside)
            for line, line_beside in zip(one, other)
            for pound, beside in zip(line, line_beside)
        ]
    )


def shortest(canal, one, other):
    """Tell the least of the shortest tuples of tables that lead to the other."""
    need_tables(canal, one, other)
    table = one
    told = [table]
    # Each table that lies nearer has a way on that is no longer than its
    # distance, so the least of them is never a wrong turn.
    for left in reversed(range(distance(one, other))):
        near = near_tables(canal, table)
        table = min([further for further in near if distance(further, other) == left])
        told.append(table)
    return tuple(told)


def leads(canal, one, other, thing):
    """Tell whether thing is a tuple of tables from one to the other by steps."""
    need_tables(canal, one, other)
    if not isinstance(thing, tuple) or len(thing) == 0:
        return False
    if not all([is_table(canal, part) for part in thing]):
        return False
    if thing[0] != one or thing[-1] != other:
        return False
    return all([distance(ahead, behind) == 1 for ahead, behind in zip(thing, thing[1:])])
