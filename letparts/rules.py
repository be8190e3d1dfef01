"""Rules: by the caps of sizes, and by bans; which rows they let, and which rule lies within which."""

from math import lcm

from letparts.checks import is_from_to, is_integer, is_row, need_row
from letparts.errors import InvalidBans, InvalidHead, InvalidNumber, InvalidTail, InvalidText
from letparts.errors import NotARule, NotBans, NotCaps, TooMany
from letparts.limits import MOST_BAN_SUM, MOST_BANS, MOST_CAP, MOST_HEAD, MOST_TAIL
from letparts.parts import row_of_text, standing_among, text_of_row, times_of, without_needless

_SIGNS = "0123456*"
_CAPS_OF_SIGNS = (0, 1, 2, 3, 4, 5, 6, None)
_NO_BANS_TEXT = "none"
# Behind the 24 sizes of the longest head two tails come again together after at most 7 * 8 sizes;
# and to a ban rule, whose bans have no parts above 40, all sizes behind these are the same.
_LAST_TOLD_SIZE = 80


def _wrong_cap(caps, most):
    """The index of the first element that is no cap, or is one too many; None if there is none."""
    for at, cap in enumerate(caps):
        if at == most or not (cap is None or is_from_to(cap, 0, MOST_CAP)):
            return at
    return None


def _wrong_ban(bans):
    """The index of the first element that cannot be a ban there; None if there is none."""
    for at, ban in enumerate(bans):
        if at == MOST_BANS or not is_row(ban) or not 1 <= sum(ban) <= MOST_BAN_SUM:
            return at
        if at > 0 and ban <= bans[at - 1]:
            return at
    return None


def _shortest_tail(tail):
    """The shortest tail that, told again and again, has the same caps."""
    for length in range(1, len(tail)):
        if tail[:length] * (len(tail) // length) == tail:
            return tail[:length]
    return tail


def _shortened(head, tail):
    """The pair of head and tail that has the same caps, the tail as short as can be, then the head."""
    tail = _shortest_tail(tail)
    while head and head[-1] == tail[-1]:
        tail = tail[-1:] + tail[:-1]
        head = head[:-1]
    return head, tail


def _text_of_caps(caps):
    """The caps as they stand in the text of a rule."""
    return "".join(["*" if cap is None else str(cap) for cap in caps])


def _text_of_bans(bans):
    """The bans as they stand in the text of a rule."""
    return " ".join([text_of_row(ban) for ban in bans]) if bans else _NO_BANS_TEXT


def _head_and_tail(text):
    """The pair of head and tail of the cap rule with this text; None if there is none."""
    if not isinstance(text, str):
        return None
    before, _, behind = text.partition("|")
    if not all([sign in _SIGNS for sign in before + behind]):
        return None
    if len(before) > MOST_HEAD or not 1 <= len(behind) <= MOST_TAIL:
        return None
    head = tuple([_CAPS_OF_SIGNS[_SIGNS.find(sign)] for sign in before])
    tail = tuple([_CAPS_OF_SIGNS[_SIGNS.find(sign)] for sign in behind])
    return head, tail


def _bans_of_text(text):
    """The bans of the ban rule with this text; None if there is none."""
    if not isinstance(text, str):
        return None
    if text == _NO_BANS_TEXT:
        return ()
    bans = tuple([row_of_text(word) for word in text.split(" ")])
    return bans if _wrong_ban(bans) is None else None


class Caps:
    """A rule that tells for each size how often it may be a part; it never changes."""

    def __init__(self, head, tail):
        if not isinstance(head, tuple):
            raise InvalidHead(None)
        wrong = _wrong_cap(head, MOST_HEAD)
        if wrong is not None:
            raise InvalidHead(wrong)
        if not isinstance(tail, tuple) or not tail:
            raise InvalidTail(None)
        wrong = _wrong_cap(tail, MOST_TAIL)
        if wrong is not None:
            raise InvalidTail(wrong)
        self._head = head
        self._tail = tail
        self._shortest = _shortened(head, tail)

    @classmethod
    def read(cls, text):
        """The cap rule with this text."""
        told = _head_and_tail(text)
        if told is None:
            raise InvalidText(text)
        return cls(told[0], told[1])

    @property
    def head(self):
        """The caps of the first sizes."""
        return self._head

    @property
    def tail(self):
        """The caps of the sizes behind these, again and again."""
        return self._tail

    def __str__(self):
        return f"{_text_of_caps(self._head)}|{_text_of_caps(self._tail)}"

    def __eq__(self, other):
        # Rules with the same caps have the same shortest head and tail.
        return isinstance(other, Caps) and self._shortest == other._shortest

    def cap(self, size):
        """How often a size may be a part; None stands for any number of times."""
        if not is_integer(size) or size < 1:
            raise InvalidNumber(size)
        if size <= len(self._head):
            return self._head[size - 1]
        return self._tail[(size - len(self._head) - 1) % len(self._tail)]

    def shortest(self):
        """The cap rule with the same caps whose tail, and then whose head, is as short as can be."""
        head, tail = self._shortest
        return Caps(head, tail)


class Bans:
    """A rule that tells which rows must not stand in a row; it never changes."""

    def __init__(self, bans):
        if not isinstance(bans, tuple):
            raise InvalidBans(None)
        wrong = _wrong_ban(bans)
        if wrong is not None:
            raise InvalidBans(wrong)
        self._bans = bans

    @classmethod
    def read(cls, text):
        """The ban rule with this text."""
        bans = _bans_of_text(text)
        if bans is None:
            raise InvalidText(text)
        return cls(bans)

    @property
    def bans(self):
        """The rows that must not stand in a row, ascending."""
        return self._bans

    def __str__(self):
        return f"{_text_of_bans(self._bans)}"

    def __eq__(self, other):
        return isinstance(other, Bans) and self._bans == other._bans

    def lean(self):
        """The rule that lets the same rows and has no needless ban."""
        return Bans(without_needless(self._bans))


def need_rule(rule):
    """NotARule for what is neither a cap rule nor a ban rule."""
    if not isinstance(rule, (Caps, Bans)):
        raise NotARule(rule)


def need_caps(rule):
    """NotCaps for what is no cap rule."""
    if not isinstance(rule, Caps):
        raise NotCaps(rule)


def need_bans(rule):
    """NotBans for what is no ban rule."""
    if not isinstance(rule, Bans):
        raise NotBans(rule)


def rule_of_text(text):
    """The cap rule or the ban rule with this text; None if there is none."""
    told = _head_and_tail(text)
    if told is not None:
        return Caps(told[0], told[1])
    bans = _bans_of_text(text)
    return None if bans is None else Bans(bans)


def caps_of_text(text):
    """The cap rule with this text; None if there is none."""
    rule = rule_of_text(text)
    return rule if isinstance(rule, Caps) else None


def from_rule_text(text):
    """The cap rule or the ban rule with this text."""
    rule = rule_of_text(text)
    if rule is None:
        raise InvalidText(text)
    return rule


def _ban_of(size, cap):
    """The ban of a size that a cap rule lets so often."""
    return (size,) * (cap + 1)


def standing(rule, row):
    """All bans of a rule that stand in a row, ascending."""
    need_rule(rule)
    need_row(row)
    if isinstance(rule, Bans):
        return tuple(standing_among(rule.bans, row))
    found = []
    for size, many in times_of(row).items():
        cap = rule.cap(size)
        if cap is not None and many > cap:
            found.append(_ban_of(size, cap))
    return tuple(sorted(found))


def lets(rule, row):
    """Whether a rule lets a row."""
    return standing(rule, row) == ()


def _first_bans(rule):
    """The bans of a rule, of a cap rule those of so many sizes that no others need be looked at."""
    if isinstance(rule, Bans):
        return list(rule.bans)
    caps = [(size, rule.cap(size)) for size in range(1, _LAST_TOLD_SIZE + 1)]
    return [_ban_of(size, cap) for size, cap in caps if cap is not None]


def not_within(rule, other):
    """A row that the first rule lets and the second one does not; None if there is none."""
    need_rule(rule)
    need_rule(other)
    for ban in _first_bans(other):
        if lets(rule, ban):
            return ban
    return None


def is_within(rule, other):
    """Whether the second rule lets all rows that the first one lets."""
    return not_within(rule, other) is None


def _lesser_cap(one, other):
    """The cap of a size that must be kept if both of these must."""
    if one is None or other is None:
        return other if one is None else one
    return min(one, other)


def _both_caps(rule, other):
    """The cap rule that lets just the rows that both cap rules let."""
    first = max(len(rule.head), len(other.head))
    last = first + lcm(len(rule.tail), len(other.tail))
    caps = tuple([_lesser_cap(rule.cap(size), other.cap(size)) for size in range(1, last + 1)])
    head, tail = _shortened(caps[:first], caps[first:])
    if len(tail) > MOST_TAIL:
        raise TooMany(len(tail))
    return Caps(head, tail)


def _both_bans(rule, other):
    """The lean ban rule that lets just the rows that both ban rules let."""
    bans = without_needless(tuple(sorted(set(rule.bans + other.bans))))
    if len(bans) > MOST_BANS:
        raise TooMany(len(bans))
    return Bans(bans)


def both(rule, other):
    """The rule that lets just the rows that both let; None of a cap rule and a ban rule."""
    need_rule(rule)
    need_rule(other)
    if isinstance(rule, Caps) and isinstance(other, Caps):
        return _both_caps(rule, other)
    if isinstance(rule, Bans) and isinstance(other, Bans):
        return _both_bans(rule, other)
    return None
