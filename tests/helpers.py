"""What the tests have in common: wrong values, checks of errors, and slow ways to the same results."""

import copy
import unittest

ANY = object()
OTHER_KINDS = (True, False, None, "", "2", b"2", [], [2], {}, {2: 1}, {2}, frozenset((2,)), int, len, ANY)
NOT_INTEGERS = OTHER_KINDS + ((), (2,), ((1,),))
NOT_ROWS = OTHER_KINDS + (
    0, 2, -1, "2+1", "-", [2, 1], (0,), (-1,), (1, 2), (3, 1, 2), (True,), (2, True), (2, False), (2, None),
    ("2",), (2, "1"), (b"2",), ((1,),), (2, (1,)), ([1],), (2, [1]), (2, 0), (2, -1), ({},), (ANY,),
    (601,), (600, 1), (300, 300, 1), (1,) * 601, (10 ** 99,))


class Case(unittest.TestCase):
    """A test with checks of errors."""

    def fails(self, error, name, value, function, /, *passed, **named):
        """The call raises just this error, with this attribute."""
        with self.assertRaises(error) as caught:
            function(*passed, **named)
        raised = caught.exception
        self.assertIs(type(raised), error, (function, passed, named))
        if name is not None:
            told = getattr(raised, name)
            self.assertIs(type(told), type(value), (function, passed, named))
            self.assertEqual(told, value, (function, passed, named))
            if name == "given":
                self.assertEqual(repr(told), repr(value))

    def fails_in_order(self, function, *parameters):
        """Each wrong argument raises its error, whatever the ones behind it are.

        A parameter is its name, a right value, and (WRONG, ERROR, NAME, VALUE) for wrong ones.
        """
        names = [parameter[0] for parameter in parameters]
        right = [parameter[1] for parameter in parameters]
        wrong = [parameter[2][-1][0] if parameter[2] else parameter[1] for parameter in parameters]
        for at, (_, _, faults) in enumerate(parameters):
            for value, error, name, told in faults:
                for behind in (right, wrong):
                    passed = right[:at] + [value] + behind[at + 1:]
                    self.fails(error, name, told, function, *passed)
                    self.fails(error, name, told, function, **dict(zip(names, passed)))

    def same(self, expected, function, /, **named):
        """The call returns this, with its arguments by position and by name, and changes none of them."""
        kept = copy.deepcopy(named)
        turned = dict(reversed(list(named.items())))
        for result in (function(*named.values()), function(**named), function(**turned), function(*named.values())):
            self.assertEqual(repr(result), repr(expected), (function, named))
            self.assertEqual(result, expected, (function, named))
        self.assertEqual(list(map(told, named.values())), list(map(told, kept.values())))


def told(value):
    """A value, or of a rule, all that it was made with."""
    if hasattr(value, "tail"):
        return ("caps", value.head, value.tail, str(value))
    if hasattr(value, "bans"):
        return ("bans", value.bans, str(value))
    return (type(value), value)


def given(error, values):
    """The faults of a parameter whose error has the value that was passed."""
    return [(value, error, "given", value) for value in values]


def index(error, *pairs):
    """The faults of a parameter whose error has an index: (WRONG, INDEX) each."""
    return [(value, error, "index", at) for value, at in pairs]


def listed_rows(number, most=None):
    """All rows of a number, in no order that anything hangs on."""
    most = number if most is None else most
    if number == 0:
        return [()]
    return [(part,) + rest for part in range(min(number, most), 0, -1) for rest in listed_rows(number - part, part)]


def unlike_rows(number):
    """All rows of a number without like parts."""
    return [row for row in listed_rows(number) if len(set(row)) == len(row)]


def odd_rows(number):
    """All rows of a number with odd parts alone."""
    return [row for row in listed_rows(number) if all(part % 2 for part in row)]


def random_row(random, number, sizes=None):
    """Any row of a number; of these sizes alone, 1 among them, if they are told."""
    row = []
    while number:
        most = random.randint(1, number)
        part = max(size for size in (sizes or range(1, most + 1)) if size <= most)
        row.append(part)
        number -= part
    return tuple(sorted(row, reverse=True))


def random_unlike(random, number):
    """Any row of a number without like parts."""
    row = []
    while number:
        most = min([number] + [part - 1 for part in row[-1:]])
        # Behind a part there must be room for what is left, in lesser parts.
        parts = [part for part in range(1, most + 1) if part * (part + 1) // 2 >= number]
        part = random.choice(parts[:random.choice((1, 9, 600))])
        row.append(part)
        number -= part
    return tuple(row)


def rims_by_hooks(row):
    """For each box of a row the pair of its hook and the row without the rim from the hook's one end to the other."""
    found = []
    for line, part in enumerate(row):
        for at in range(part):
            foot = max(low for low, other in enumerate(row) if other > at)
            lower = row[:line] + tuple(other - 1 for other in row[line + 1:foot + 1]) + (at,) + row[foot + 1:]
            found.append((part - at + foot - line, tuple(other for other in lower if other)))
    return found


def slow_lets(rule, row):
    """Whether a rule lets a row, by what the rule was made with."""
    if hasattr(rule, "bans"):
        return not any(all(row.count(size) >= ban.count(size) for size in ban) for ban in rule.bans)
    for size in row:
        behind = size - 1 - len(rule.head)
        cap = rule.head[size - 1] if behind < 0 else rule.tail[behind % len(rule.tail)]
        if cap is not None and row.count(size) > cap:
            return False
    return True


def random_caps(random, classes, longest=6):
    """Any cap rule."""
    signs = (0, 1, 2, 3, 4, 5, 6, None, None)
    head = tuple(random.choice(signs) for _ in range(random.randint(0, longest)))
    tail = tuple(random.choice(signs) for _ in range(random.randint(1, 8)))
    return classes(head, tail)


def random_bans(random, classes, most=9):
    """Any ban rule with small bans."""
    bans = set()
    for _ in range(random.randint(0, 6)):
        bans.add(random.choice(listed_rows(random.randint(1, most))))
    return classes(tuple(sorted(bans)))
