"""The words of points 4, 5, 11 and 12, read one by one, to judge the program by."""

from itertools import combinations, permutations


def has(table, row, column):
    return table[row][column] == 'x'


def are_different_indexes(thing, count):
    if type(thing) is not tuple:
        return False
    if any(type(index) is not int or index not in range(count) for index in thing):
        return False
    return len(set(thing)) == len(thing)


def judge_ring(table, thing):
    """Whether a thing is a ring of a table (point 4)."""
    if type(thing) is not tuple or len(thing) != 2:
        return False
    rows, columns = thing
    if not are_different_indexes(rows, len(table)) or not are_different_indexes(columns, len(table[0])):
        return False
    many = len(rows)
    if len(columns) != many or many < 3:
        return False
    for at in range(many):
        wanted = {columns[at], columns[at + 1] if at + 1 < many else columns[0]}
        if {column for column in columns if has(table, rows[at], column)} != wanted:
            return False
    return True


def all_rings(table):
    """Every ring of a small table, tried one by one."""
    height, width = len(table), len(table[0])
    return [(rows, columns)
            for many in range(3, min(height, width) + 1)
            for rows in permutations(range(height), many)
            for columns in permutations(range(width), many)
            if judge_ring(table, (rows, columns))]


def ring_sizes(table):
    """The numbers of rows of the rings of a table of any size: a ring is one round of its rows and columns."""
    masks = [sum(1 << at for at, sign in enumerate(row) if sign == 'x') for row in table]
    sizes = set()
    for many in range(3, min(len(table), len(table[0])) + 1):
        if any(is_one_round([masks[row] for row in rows], columns)
               for columns in combinations(range(len(table[0])), many)
               for rows in combinations(range(len(table)), many)):
            sizes.add(many)
    return sizes


def is_one_round(masks, columns):
    among = sum(1 << column for column in columns)
    left = []
    for mask in masks:
        if (mask & among).bit_count() != 2:
            return False
        left.append(mask & among)
    if any(sum(mask >> column & 1 for mask in left) != 2 for column in columns):
        return False
    reached = left.pop()
    while True:
        met = [mask for mask in left if mask & reached]
        if not met:
            return not left
        left = [mask for mask in left if not mask & reached]
        for mask in met:
            reached |= mask


def squares_by_hand(table):
    """Every square of a table as it stands (point 5), ascending."""
    found = []
    for row, other_row in combinations(range(len(table)), 2):
        for column, other_column in combinations(range(len(table[0])), 2):
            if has(table, row, column) and has(table, row, other_column):
                if has(table, other_row, column) and not has(table, other_row, other_column):
                    found.append((row, other_row, column, other_column))
    return sorted(found)


def in_order_by_hand(table, order):
    rows, columns = order
    return tuple(''.join(table[row][column] for column in columns) for row in rows)


def judge_order(table, thing):
    """Whether a thing is an order of a table (point 5)."""
    if type(thing) is not tuple or len(thing) != 2:
        return False
    for lines, count in ((thing[0], len(table)), (thing[1], len(table[0]))):
        if not are_different_indexes(lines, count) or len(lines) != count:
            return False
    return True


def judge_arrangement(table, thing):
    return judge_order(table, thing) and not squares_by_hand(in_order_by_hand(table, thing))


def all_orders(table):
    return [(rows, columns)
            for rows in permutations(range(len(table)))
            for columns in permutations(range(len(table[0])))]


def judge_lexical(table, thing):
    """Whether a thing is a lexical order of a table (point 11)."""
    if not judge_order(table, thing):
        return False
    rows, columns = thing
    rows_read = [[has(table, row, column) for column in columns[::-1]] for row in rows]
    columns_read = [[has(table, row, column) for row in rows[::-1]] for column in columns]
    for read in (rows_read, columns_read):
        if any(read[at] > read[at + 1] for at in range(len(read) - 1)):
            return False
    return True


def nests_by_hand(table, columns):
    """All nests among some columns (point 12)."""
    found = []
    for column in columns:
        owners = [row for row in range(len(table)) if has(table, row, column)]
        lots = [{other for other in columns if has(table, row, other)} for row in owners]
        if all(one <= two or two <= one for one, two in combinations(lots, 2)):
            found.append(column)
    return found


def taken_by_hand(table):
    left = list(range(len(table[0])))
    away = []
    while nests_by_hand(table, left):
        away.append(nests_by_hand(table, left)[0])
        left = [column for column in left if column != away[-1]]
    return away, tuple(left)
