import unittest

from letparts import limits


class Limits(unittest.TestCase):
    def test_all(self):
        names = {name: value for name, value in vars(limits).items() if not name.startswith("_")}
        self.assertEqual(names, {
            "MOST_SUM": 600, "MOST_NUMBER": 400, "MOST_LISTED": 24, "MOST_LED": 60, "MOST_WALKED": 30,
            "MOST_HEAD": 24, "MOST_TAIL": 8, "MOST_CAP": 6, "MOST_BANS": 6, "MOST_BAN_SUM": 40, "MOST_RODS": 9,
            "MOST_COUNTS": 24, "MOST_SEEN": 12})
