"""Things that many tests pass: wrong ones of every kind, and tables of every size."""

import copy
import random

from ticklay.errors import InvalidTable

GOOD = ('xx.', '.xx', 'xxx')
RINGED = ('xx.', '.xx', 'x.x')


def nest_of(levels, kind):
    """Return a nest of lists, tuples or dicts, as deep as told."""
    thing = 0
    for _ in range(levels):
        if kind == 'dict':
            thing = {'x': thing}
        elif kind == 'list':
            thing = [thing]
        else:
            thing = (thing,)
    return thing


def wrong_everywhere():
    """Return things that are neither a table nor lines, a ring, an order, or a text."""
    return [
        0, 1, 2, -1, 10 ** 40 - 1, -(10 ** 39), True, False, None,
        [], {}, [()], [[]], {'x': 'x'}, {0: 'x'}, {(0, 'x'): 'x'}, {('x', 1): [1]},
        (None,), (True,), (True, False), (None, None), ((), ()), ([], []), ({}, {}),
        (((0,),),), [0], [0, 1], ['x', 'x'], [['x']], {'a': [1, (2, {'b': None})]},
        nest_of(20, 'tuple'), nest_of(20, 'list'), nest_of(20, 'dict'),
        tuple(range(20000)), list(range(20000)), tuple([0] * 20000),
        (10 ** 40 - 1, 10 ** 40 - 2), (('x',), ('.',)), (('x', 'x'), 'x'),
        ({'x': 0}, {'x': 1}), ('\t', '\n', ' '), ('no', 'table'),
    ]


def wrong_tables():
    """Return things that are no tables, many of them almost one."""
    good = ('xx.', '.xx', 'x.x')
    wrong = wrong_everywhere()
    wrong += ['x', 'xx', '', 'x.\n.x', ' ', '\t', '\n']
    wrong += [(), ('',), ('', ''), ('x', ''), ('', 'x'), ('xx', 'x'), ('x', 'xx'), ('x', 'x', 'xx')]
    wrong += [('x',) * 9, ('x' * 9,), ('x' * 9,) * 8, ('x' * 8,) * 9, ('.',) * 20000, ('x' * 20000,)]
    wrong += [list(good), [list(row) for row in good], tuple(list(row) for row in good)]
    wrong += [tuple(tuple(row) for row in good), dict(enumerate(good)), '\n'.join(good), (good,)]
    for sign in ['X', 'o', ' ', '\t', '\n', '0', '1', ',', '/', '..', '']:
        wrong += [(sign + 'x.', '.xx', 'x.x'), ('xx.', '.xx', 'x.' + sign), ('x' + sign + '.',)]
    for row in [0, 1, True, False, None, [], ['x', '.', 'x'], ('x', '.', 'x'), {}, {'x': 1}, 'x.', 'x.xx', 'x.X', '']:
        wrong += [(row,) + good, good + (row,), ('xx.', row, 'x.x'), ('x' * 3,) * 7 + (row,)]
    # Some of the exchanges above, such as that of a sign for none, leave a table after all.
    return [thing for thing in wrong if not plainly_a_table(thing)]


def plainly_a_table(thing):
    """Return whether a thing is a table, by the words of point 3 one by one."""
    if type(thing) is not tuple or len(thing) not in range(1, 9):
        return False
    for row in thing:
        if type(row) is not str or len(row) not in range(1, 9) or row.strip('x.') != '':
            return False
        if len(row) != len(thing[0]):
            return False
    return True


def some_table(rnd, height, width, share):
    """Return a table in which about this share of the places is ticked."""
    return tuple(''.join('x' if rnd.random() < share else '.' for _ in range(width)) for _ in range(height))


def small_tables(height, width):
    """Return all tables of a size."""
    tables = []
    for number in range(2 ** (height * width)):
        signs = ''.join('x' if number >> at & 1 else '.' for at in range(height * width))
        tables.append(tuple(signs[at:at + width] for at in range(0, height * width, width)))
    return tables


def ring_alone(many):
    """Return the table that is a ring of so many rows and nothing else."""
    return tuple(''.join('x' if column in (row, (row + 1) % many) else '.' for column in range(many))
                 for row in range(many))


def road_table(rnd, height, width):
    """Return a table without a ring: each row has the columns of a piece of one straight road."""
    rows = []
    for _ in range(height):
        first = rnd.randrange(width)
        last = rnd.randrange(first, width)
        rows.append('.' * first + 'x' * (last - first + 1) + '.' * (width - last - 1))
    return shuffled(rnd, tuple(rows))


def squareless_table(rnd, height, width, share):
    """Return a table without a ring: some table, with ticks put until it has no square, in another order."""
    signs = [list(row) for row in some_table(rnd, height, width, share)]
    places = [(row, other_row, column, other_column)
              for row in range(height) for other_row in range(row + 1, height)
              for column in range(width) for other_column in range(column + 1, width)]
    more = True
    while more:
        more = False
        for row, other_row, column, other_column in places:
            if signs[row][column] == signs[row][other_column] == signs[other_row][column] == 'x':
                more = more or signs[other_row][other_column] == '.'
                signs[other_row][other_column] = 'x'
    return shuffled(rnd, tuple(''.join(row) for row in signs))


def shuffled(rnd, table):
    """Return a table with its rows and columns in some other order."""
    rows = list(range(len(table)))
    columns = list(range(len(table[0])))
    rnd.shuffle(rows)
    rnd.shuffle(columns)
    return tuple(''.join(table[row][column] for column in columns) for row in rows)


def put_within(rnd, table, height, width, share):
    """Return a greater table with a table in it, in its order, at some places."""
    rows = sorted(rnd.sample(range(height), len(table)))
    columns = sorted(rnd.sample(range(width), len(table[0])))
    signs = [list(row) for row in some_table(rnd, height, width, share)]
    for at, row in enumerate(rows):
        for spot, column in enumerate(columns):
            signs[row][column] = table[at][spot]
    return tuple(''.join(row) for row in signs)


def many_tables():
    """Return tables of all sizes: of few and many ticks, with rings put in, and without rings."""
    rnd = random.Random(20)
    tables = []
    for height in range(1, 9):
        for width in range(1, 9):
            for share in (0.15, 0.3, 0.5, 0.7, 0.9):
                tables.append(some_table(rnd, height, width, share))
            tables += [road_table(rnd, height, width) for _ in range(2)]
            tables += [('x' * width,) * height, ('.' * width,) * height]
    return tables + tables_with_rings(rnd)


def tables_with_rings(rnd):
    """Return rings by themselves and within greater tables, straight and shuffled."""
    tables = []
    for many in range(3, 9):
        alone = ring_alone(many)
        tables += [alone, shuffled(rnd, alone), shuffled(rnd, alone)]
        for height in range(many, 9):
            for width in range(many, 9):
                for share in (0, 0.4, 1):
                    within = put_within(rnd, alone, height, width, share)
                    tables += [within, shuffled(rnd, within)]
    return tables


def near_rings(found):
    """Things near a ring: each index exchanged, left out, twice, of another kind, and the tuples turned."""
    rows, columns = found
    things = [
        (columns, rows), (rows[::-1], columns), (rows, columns[::-1]), (rows[::-1], columns[::-1]),
        (rows[1:] + rows[:1], columns), (rows, columns[1:] + columns[:1]),
        (rows[1:] + rows[:1], columns[1:] + columns[:1]),
        (rows[:-1], columns[:-1]), (rows[1:], columns), (rows, columns[1:]), (rows[:2], columns[:2]),
        (rows + rows[:1], columns + columns[:1]), (rows + (7,), columns + (7,)), (rows, columns, rows), (rows,),
        rows, columns, rows + columns, tuple(zip(rows, columns)), [rows, columns], (list(rows), columns),
        (rows, list(columns)), [list(rows), list(columns)], {'rows': rows, 'columns': columns}, {0: rows, 1: columns},
        (rows, None), (None, columns), ((), ()), (rows, ()), ((), columns),
    ]
    for at in range(len(rows)):
        for wrong in (-1, -len(rows), 8, 10 ** 39, True, False, None, '0', (0,), [0], 0, 1, 2, rows[at - 1]):
            things.append((rows[:at] + (wrong,) + rows[at + 1:], columns))
            things.append((rows, columns[:at] + (wrong,) + columns[at + 1:]))
    return things


def near_orders(order):
    """Things near an order: each index exchanged, left out, twice, of another kind, and the tuples turned."""
    rows, columns = order
    things = [
        (columns, rows), (rows[::-1], columns), (rows, columns[::-1]), (rows[:-1], columns), (rows, columns[:-1]),
        (rows[1:], columns), (rows, columns[1:]), (rows + rows[:1], columns), (rows, columns + columns[:1]),
        (rows + (len(rows),), columns), (rows, columns + (len(columns),)), (rows, columns, ()), (rows,), rows,
        rows + columns, [rows, columns], (list(rows), columns), (rows, list(columns)), {0: rows, 1: columns},
        (rows, None), (None, columns), ((), ()), (rows, ()), ((), columns), tuple(zip(rows, columns)),
    ]
    for at in range(len(rows)):
        for wrong in (-1, len(rows), 10 ** 39, True, False, None, '0', (0,), [0], 0, rows[at - 1]):
            things.append((rows[:at] + (wrong,) + rows[at + 1:], columns))
    for at in range(len(columns)):
        for wrong in (-1, len(columns), 10 ** 39, True, False, None, '0', (0,), [0], 0, columns[at - 1]):
            things.append((rows, columns[:at] + (wrong,) + columns[at + 1:]))
    return things


def check_wrong_tables(test, call):
    """Check that a call of a thing in a table's place raises InvalidTable, and leaves the thing as it is."""
    for thing in wrong_tables():
        before = copy.deepcopy(thing)
        with test.subTest(thing=repr(thing)[:80]):
            with test.assertRaises(InvalidTable):
                call(thing)
            test.assertEqual(before, thing)


def check_new_lists(test, call):
    """Check that each call gives a list of its own."""
    first = call()
    kept = list(first)
    test.assertIs(type(first), list)
    first.append('more')
    first.reverse()
    test.assertEqual(call(), kept)
    test.assertIsNot(call(), call())


NEAR_PARTS = (-1, -2, 0, 1, 2, 8, 10 ** 39, -10 ** 39, True, False, None, '', '0', (), (0,), [], [0], {}, {0: 0})


def near_tuples(good, parts=NEAR_PARTS):
    """Things near a tuple: each part exchanged, left out or put in twice, and the whole of another kind."""
    things = [list(good), dict(enumerate(good)), (good,), [good], good[::-1], good + good, (), good[:1], None]
    for at in range(len(good)):
        things += [good[:at] + good[at + 1:], good[:at + 1] + good[at:], good[at:] + good[:at], good[at]]
        things += [good[:at] + (part,) + good[at + 1:] for part in parts]
        if isinstance(good[at], int) and not isinstance(good[at], bool):
            things += [good[:at] + (good[at] + more,) + good[at + 1:] for more in (-1, 1)]
    for part in parts:
        things += [good + (part,), (part,) + good]
    return things


def exchanged_at(table, row, column, sign):
    """Return a table with another sign at a place."""
    signs = [list(line) for line in table]
    signs[row][column] = sign
    return tuple(''.join(line) for line in signs)
