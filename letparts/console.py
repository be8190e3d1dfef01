"""Consoles: benches that are told by lines what is done, and asked by lines."""

from letparts.benches import Bench
from letparts.errors import InvalidCommand
from letparts.games import best_moves, is_lost, rims, worth
from letparts.gaps import gaps
from letparts.heaps import comes_again, dealt_from, deals, is_garden
from letparts.ladders import ladders
from letparts.parts import number_of_text, row_of_text, text_of_row, turned_row
from letparts.paying import is_balanced, is_complete, is_perfect, is_set
from letparts.ranks import crank, rank
from letparts.rods import core, strikes, threads
from letparts.rows import hooks, place_of, square
from letparts.rules import caps_of_text, lets
from letparts.squares import is_own, squares
from letparts.vectors import rod_sign, vector

_NONE = "none"
# For each command what comes of it, then the kinds of the words behind it.
_COMMANDS = {
    "put": ("deed", "number"), "take": ("deed", "number"), "turn": ("deed",), "deal": ("deed",), "turn over": ("deed",),
    "strike": ("deed", "row", "number"), "exchange": ("deed", "rule", "rule"), "split": ("deed", "number"),
    "merge": ("deed", "number"), "fish": ("deed",), "lift": ("deed", "row", "number"), "rim": ("deed", "row"),
    "undo": ("deed",), "row": ("row",), "turned": ("row",), "core": ("row", "number"), "sum": ("number",),
    "parts": ("number",), "square": ("number",), "rank": ("number",), "crank": ("number",), "place": ("number",),
    "worth": ("number",), "sign": ("number", "number"), "ladders": ("number", "rule"), "hooks": ("numbers",),
    "threads": ("rows", "number"), "strikes": ("rows", "number"), "from": ("rows",), "rims": ("rows",),
    "best": ("rows",), "gaps": ("numbers",), "squares": ("numbers",), "vector": ("numbers", "number"),
    "let": ("truth", "rule"), "own": ("truth",), "lost": ("truth",), "garden": ("truth",), "again": ("truth",),
    "complete": ("truth",), "perfect": ("truth",), "set": ("truth",), "balanced": ("truth",), "deals": ("number",)}
_TWO_WORDS = "turn over"


def _read(kind, text):
    """What a word tells; None if it is not of its kind."""
    match kind:
        case "number":
            return number_of_text(text)
        case "row":
            return row_of_text(text)
        case _:
            return caps_of_text(text)


def _understood(command):
    """The word of a command, with what is told behind it."""
    if not isinstance(command, str):
        raise InvalidCommand(command)
    words = [command] if command == _TWO_WORDS else command.split(" ")
    word = words[0]
    if word not in _COMMANDS or len(_COMMANDS[word]) != len(words):
        raise InvalidCommand(command)
    told = [_read(kind, text) for kind, text in zip(_COMMANDS[word][1:], words[1:])]
    if any([value is None for value in told]):
        raise InvalidCommand(command)
    return word, told


def _do(bench, word, told):
    """Does a deed at a bench."""
    match word:
        case "put":
            bench.put(told[0])
        case "take":
            bench.take(told[0])
        case "turn":
            bench.turn()
        case "deal":
            bench.deal()
        case "turn over":
            bench.turn_over()
        case "strike":
            bench.strike(told[0], told[1])
        case "exchange":
            bench.exchange(told[0], told[1])
        case "split":
            bench.split(told[0])
        case "merge":
            bench.merge(told[0])
        case "fish":
            bench.fish()
        case "lift":
            bench.lift(told[0], told[1])
        case "rim":
            bench.rim(told[0])
        case "undo":
            bench.undo()


def _row_asked(row, word, told):
    """The row that is asked for."""
    match word:
        case "row":
            return row
        case "turned":
            return turned_row(row)
        case "core":
            return core(row, told[0])


def _rows_asked(row, word, told):
    """The rows that are asked for."""
    match word:
        case "threads":
            return threads(row, told[0])
        case "strikes":
            return strikes(row, told[0])
        case "from":
            return dealt_from(row)
        case "rims":
            return rims(row)
        case "best":
            return best_moves(row)


def _number_asked(row, word, told):
    """The number that is asked for."""
    match word:
        case "sum":
            return sum(row)
        case "parts":
            return len(row)
        case "square":
            return square(row)
        case "rank":
            return rank(row)
        case "crank":
            return crank(row)
        case "place":
            return place_of(row)
        case "worth":
            return worth(row)
        case "sign":
            return rod_sign(row, told[0])
        case "ladders":
            return ladders(told[0], row)
        case "deals":
            return deals(row)


def _numbers_asked(row, word, told):
    """The numbers that are asked for."""
    match word:
        case "hooks":
            return hooks(row)
        case "gaps":
            return gaps(row)
        case "squares":
            return squares(row)
        case "vector":
            return vector(core(row, told[0]), told[0])


def _truth_asked(row, word, told):
    """Whether it is as is asked."""
    match word:
        case "let":
            return lets(told[0], row)
        case "own":
            return is_own(row)
        case "lost":
            return is_lost(row)
        case "garden":
            return is_garden(row)
        case "again":
            return comes_again(row)
        case "complete":
            return is_complete(row)
        case "perfect":
            return is_perfect(row)
        case "set":
            return is_set(row)
        case "balanced":
            return is_balanced(row)


def _listed(texts):
    """Texts with spaces between."""
    return " ".join(texts) if texts else _NONE


def _answer(row, word, told):
    """The answer to a question about a row."""
    match _COMMANDS[word][0]:
        case "row":
            return text_of_row(_row_asked(row, word, told))
        case "rows":
            return _listed([text_of_row(found) for found in _rows_asked(row, word, told)])
        case "number":
            return str(_number_asked(row, word, told))
        case "numbers":
            return _listed([str(number) for number in _numbers_asked(row, word, told)])
        case _:
            return "yes" if _truth_asked(row, word, told) else "no"


class Console:
    """A bench by lines."""

    def __init__(self, row):
        self._bench = Bench(row)

    @property
    def bench(self):
        """The bench."""
        return self._bench

    def say(self, command):
        """Does a command and returns the answer."""
        word, told = _understood(command)
        if _COMMANDS[word][0] == "deed":
            _do(self._bench, word, told)
            return "ok"
        return _answer(self._bench.now, word, told)
