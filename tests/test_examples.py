"""The examples of the interface, with just these results."""

import unittest

# Each name that an example binds stays bound for the ones behind it, in later sections too.
EXAMPLES = (
    ("rows", '''
>>> from letparts.rows import all_rows, as_text, feet, from_feet, from_text, hooks, join, nth_row, place_of, square, stands_in, together, turned
>>> [as_text((4, 4, 1)), from_text("-"), turned((4, 4, 1)), square((4, 4, 1)), feet((4, 4, 1)), from_feet((3, 2), (2, 0)), hooks((2, 1))]
['4+4+1', (), (3, 2, 2, 2), 2, ((3, 2), (2, 0)), (4, 4, 1), (3, 1, 1)]
>>> [stands_in((2, 1), (4, 2, 1)), together((4, 1), (2, 1)), join(((2, 2), (2, 1))), all_rows(4), nth_row(9, 17), place_of((4, 4, 1))]
[True, (4, 2, 1, 1), (2, 2, 1), ((1, 1, 1, 1), (2, 1, 1), (2, 2), (3, 1), (4,)), (4, 4, 1), 17]
>>> turned((1, 2))
raises InvalidRow(given=(1, 2))
'''),
    ("rules", '''
>>> from letparts.rules import Bans, Caps, both, from_rule_text, is_within, lets, not_within, standing
>>> unlike = Caps((), (1,))
>>> odd = Caps((), (None, 0))
>>> few = Bans(((2, 1), (3,)))
>>> [str(unlike), str(odd), str(few), Caps.read("11|1") == unlike, Caps((1, 1), (1, 1)).shortest().head, odd.cap(7), lets(odd, (5, 1, 1)), lets(few, (2, 2))]
['|1', '|*0', '2+1 3', True, (), None, True, True]
>>> [standing(unlike, (4, 4, 1, 1)), standing(few, (3, 2, 1)), is_within(unlike, odd), str(both(unlike, odd)), Bans(((2, 1), (2, 2, 1))).lean().bans, from_rule_text("none").bans]
[((1, 1), (4, 4)), ((2, 1), (3,)), False, '|10', ((2, 1),), ()]
>>> Bans(((3,), (2, 1)))
raises InvalidBans(index=1)
'''),
    ("counts", '''
>>> from letparts.counts import ban_sums, count, count_all, counts, divisor_sums, excesses, sieve
>>> [count(unlike, 9), count(odd, 9), count_all(9), counts(few, 6), sieve(few), ban_sums(unlike, 6), excesses(unlike, 6), divisor_sums(odd, 6)]
[8, 8, 30, (1, 1, 2, 1, 3, 3, 6), ((0, 1), (3, -2), (6, 1)), (0, 1, 0, 1, 0, 1), (1, 0, 1, 0, 1, 0), (1, 1, 4, 1, 6, 4)]
'''),
)


def shown(error):
    """An error as the interface writes it."""
    told = ", ".join(f"{name}={value!r}" for name, value in vars(error).items())
    return f"raises {type(error).__name__}({told})"


def said(source, names):
    """What Python says to a line; None to a statement."""
    try:
        code = compile(source, "example", "eval")
    except SyntaxError:
        exec(source, names)
        return None
    try:
        return repr(eval(code, names))
    except (ValueError, LookupError, ArithmeticError) as error:
        return shown(error)


class Examples(unittest.TestCase):
    def test_all(self):
        names = {}
        for section, text in EXAMPLES:
            lines = text.strip("\n").split("\n")
            for at, line in enumerate(lines):
                if line.startswith(">>> "):
                    behind = lines[at + 1] if at + 1 < len(lines) else ">>> "
                    expected = None if behind.startswith(">>> ") else behind
                    with self.subTest(section=section, line=line):
                        self.assertEqual(said(line[4:], names), expected)


if __name__ == "__main__":
    unittest.main()
