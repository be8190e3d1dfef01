"""Desks: rules under names, with promises about them, and the logs of their changes."""

from letparts.alike import alike
from letparts.checks import need_from_to
from letparts.errors import Broken, InUse, InvalidLog, InvalidName, InvalidWish, NotPossible, UnknownName
from letparts.errors import WrongName, WrongValue
from letparts.rules import is_within, need_rule, rule_of_text
from letparts.trials import Trial, undone
from letparts.wishes import is_granted, is_wish

_LETTERS = "abcdefghijklmnopqrstuvwxyz"
_MOST_LETTERS = 8
_BETWEEN_RULES = ("within", "alike")
_LENGTHS_OF_CHANGES = {"put": 3, "drop": 2, "promise": 2, "lift": 2}


def _is_name(value):
    """Whether a value is a name."""
    if not isinstance(value, str) or not 1 <= len(value) <= _MOST_LETTERS:
        return False
    return all([letter in _LETTERS for letter in value])


def _names_in(promise):
    """The names that a promise has."""
    return promise[:1] if len(promise) == 2 else promise[1:]


def _is_promise(value):
    """Whether a value has the form of a promise, its names being any values but lists and dicts."""
    if not isinstance(value, tuple) or len(value) not in (2, 3):
        return False
    if any([isinstance(name, (list, dict)) for name in _names_in(value)]):
        return False
    return is_wish(value[1]) if len(value) == 2 else value[0] in _BETWEEN_RULES


def _holds(promise, rules):
    """Whether a promise holds for these rules under their names."""
    told = [rules[name] for name in _names_in(promise)]
    if len(promise) == 2:
        return is_granted(told[0], promise[1])
    return is_within(told[0], told[1]) if promise[0] == "within" else alike(told[0], told[1])


def _first_with(name, promises):
    """The index of the first promise that has a name; None if none has."""
    for index, promise in enumerate(promises):
        if name in _names_in(promise):
            return index
    return None


def _first_broken(promises, rules, name):
    """The index of the first promise that does not hold with a new rule under a name; None if all hold."""
    for index, promise in enumerate(promises):
        # What does not have the name holds as it did.
        if name in _names_in(promise) and not _holds(promise, rules):
            return index
    return None


class Condition:
    """What a desk has on it, and the change by which this came."""

    def __init__(self, rules, wished, change):
        self.rules = rules
        self.wished = wished
        self.change = change


class Desk:
    """Rules under names, and promises about them."""

    def __init__(self):
        self.past = (Condition({}, (), None),)

    def __len__(self):
        return len(self.past[-1].rules)

    def __bool__(self):
        # Also without names.
        return True

    @property
    def names(self):
        """The names, ascending."""
        return tuple(sorted(list(self.past[-1].rules)))

    @property
    def promises(self):
        """The promises, in their order."""
        return self.past[-1].wished

    @property
    def changes(self):
        """How many changes can be taken back."""
        return len(self.past) - 1

    @property
    def log(self):
        """The changes that have not been taken back, in their order."""
        return tuple([condition.change for condition in self.past[1:]])

    def _change(self, rules, wished, change):
        """The desk has these rules and promises on it, by a change."""
        self.past += (Condition(rules, wished, change),)

    def put(self, name, rule):
        """Puts a rule under a name, also in the place of another one."""
        if not _is_name(name):
            raise InvalidName(name)
        need_rule(rule)
        rules = dict(self.past[-1].rules)
        rules[name] = rule
        broken = _first_broken(self.promises, rules, name)
        if broken is not None:
            raise Broken(broken)
        self._change(rules, self.promises, ("put", name, str(rule)))

    def named(self, name):
        """The rule with this name."""
        if not isinstance(name, str) or name not in self.past[-1].rules:
            raise UnknownName(name)
        return self.past[-1].rules[name]

    def drop(self, name):
        """Takes a name away."""
        self.named(name)
        used = _first_with(name, self.promises)
        if used is not None:
            raise InUse(used)
        left = {other: rule for other, rule in self.past[-1].rules.items() if other != name}
        self._change(left, self.promises, ("drop", name))

    def promise(self, wish):
        """A promise comes behind the others."""
        if not _is_promise(wish):
            raise InvalidWish(wish)
        for name in _names_in(wish):
            self.named(name)
        if not _holds(wish, self.past[-1].rules):
            raise Broken(len(self.promises))
        self._change(self.past[-1].rules, self.promises + (wish,), ("promise", wish))

    def lift(self, index):
        """Takes a promise away."""
        need_from_to(index, 0, len(self.promises) - 1)
        left = self.promises[:index] + self.promises[index + 1:]
        self._change(self.past[-1].rules, left, ("lift", index))

    def undo(self):
        """Takes back the last change that has not been taken back."""
        self.past = undone(self.past)

    def trial(self):
        """For a `with` statement: if its rows end with an exception, the desk is as it was when they began."""
        return Trial(self)

    def tried(self, action):
        """What a function returns that is called with the desk within a trial."""
        with Trial(self) as held:
            return action(held)


def _is_change(value):
    """Whether a value has the word and the length of a change."""
    if not isinstance(value, tuple) or not value or not isinstance(value[0], str):
        return False
    return _LENGTHS_OF_CHANGES.get(value[0]) == len(value)


def _play(desk, change):
    """Does a change at a desk."""
    word, told = change[:2]
    match word:
        case "put":
            # What is no text of a rule is put as None, which is no rule.
            desk.put(told, rule_of_text(change[2]))
        case "drop":
            desk.drop(told)
        case "promise":
            desk.promise(told)
        case _:
            desk.lift(told)


def played(log):
    """The desk to which the changes of a log lead."""
    if not isinstance(log, tuple):
        raise InvalidLog(None)
    desk = Desk()
    for index, change in enumerate(log):
        if not _is_change(change):
            raise InvalidLog(index)
        try:
            _play(desk, change)
        except (WrongValue, WrongName, NotPossible):
            raise InvalidLog(index) from None
    return desk
