import unittest

from letparts import errors

BASES = {"WrongValue": ValueError, "WrongName": LookupError, "NotPossible": ArithmeticError}
GIVEN = {
    "WrongValue": "InvalidText InvalidRow InvalidNumber InvalidPart InvalidName InvalidWish InvalidCommand "
                  "NotARule NotCaps NotBans NotATally NotASighting",
    "WrongName": "UnknownName NoSuchPart",
    "NotPossible": "TooMany NotLet NotUnlike NotAlike NotEven NotACore NotPerfect NotBalanced NotOdd NotOwn NotApart"}
INDEX = {
    "WrongValue": "InvalidHead InvalidTail InvalidBans InvalidRows InvalidFeet InvalidSizes InvalidPairing "
                  "InvalidThreads InvalidFactors InvalidCounts InvalidLet InvalidBarred InvalidGaps InvalidVector "
                  "InvalidLog",
    "WrongName": "InUse",
    "NotPossible": "Broken"}
PLAIN = {"NotPossible": "NoFit NothingToUndo"}
VALUES = (0, -7, None, True, "any", b"any", (1, (2,)), [1], {"a": 1}, 1.5, errors, object(), ValueError("any"))


def listed(table):
    return [(base, name) for base, names in table.items() for name in names.split()]


class Errors(unittest.TestCase):
    def test_no_others(self):
        classes = [name for name, value in vars(errors).items() if isinstance(value, type)]
        names = list(BASES) + [name for _, name in listed(GIVEN) + listed(INDEX) + listed(PLAIN)]
        self.assertEqual(sorted(classes), sorted(names))

    def test_bases(self):
        for name, above in BASES.items():
            base = getattr(errors, name)
            self.assertEqual(base.__bases__, (above,))
            self.assertEqual(vars(base()), {})

    def test_each_under_one_base_alone(self):
        for base, name in listed(GIVEN) + listed(INDEX) + listed(PLAIN):
            error = getattr(errors, name)
            self.assertEqual(error.__bases__, (getattr(errors, base),), name)
            self.assertTrue(issubclass(error, BASES[base]), name)
            for other in BASES:
                self.assertEqual(issubclass(error, getattr(errors, other)), other == base, name)

    def check_attribute(self, table, attribute):
        for _, name in listed(table):
            error = getattr(errors, name)
            for value in VALUES:
                for made in (error(value), error(**{attribute: value})):
                    self.assertIs(getattr(made, attribute), value, name)
                    self.assertEqual(list(vars(made)), [attribute], name)
            with self.assertRaises(TypeError):
                error()

    def test_given(self):
        self.check_attribute(GIVEN, "given")

    def test_index(self):
        self.check_attribute(INDEX, "index")

    def test_plain(self):
        for _, name in listed(PLAIN):
            self.assertEqual(vars(getattr(errors, name)()), {})

    def test_raised_and_caught(self):
        for base, name in listed(GIVEN) + listed(INDEX) + listed(PLAIN):
            error = getattr(errors, name)
            passed = () if name in PLAIN["NotPossible"].split() else (3,)
            for above in (getattr(errors, base), BASES[base]):
                with self.assertRaises(above):
                    raise error(*passed)
