"""A desk that keeps sets by names and answers rows of text."""

from fewsumlots.chains import just
from fewsumlots.covers import cover, spread
from fewsumlots.errors import NoDeed, NoNumber, NoSet
from fewsumlots.rows import near, row_around
from fewsumlots.sets import MOST_NUMBERS, form, grown, moved
from fewsumlots.sums import differences, fourfold, sums, ways
from fewsumlots.texts import is_number_text, read_set, shown_number, shown_row, shown_set

NAMES = "abcdef"

# What stands behind each first word: S a name whose set is asked, K a name to keep by, N a number.
WORDS_BEHIND = {
    "move": "SN", "grow": "SN", "sums": "SSK", "differences": "SSK",
    "show": "S", "many": "SS", "ways": "SSN", "fourfold": "SS", "form": "S", "row": "S",
    "near": "SN", "just": "SS", "cover": "SS", "spread": "SS",
}


def move_set(some, by):
    """Tell the set for move."""
    return moved(some, by)


def grow_set(some, by):
    """Tell the set for grow."""
    return grown(some, by)


def add_sets(one, other):
    """Tell the set for sums."""
    return sums(one, other)


def part_sets(one, other):
    """Tell the set for differences."""
    return differences(one, other)


def answer_show(some):
    """Tell the answer to show."""
    return shown_set(some)


def answer_many(one, other):
    """Tell the answer to many."""
    return shown_number(len(sums(one, other)))


def answer_ways(one, other, number):
    """Tell the answer to ways."""
    return shown_number(ways(one, other).get(number, 0))


def answer_fourfold(one, other):
    """Tell the answer to fourfold."""
    return shown_number(fourfold(one, other))


def answer_form(some):
    """Tell the answer to form."""
    return shown_set(form(some))


def answer_row(some):
    """Tell the answer to row."""
    return shown_row(row_around(some))


def answer_near(some, most):
    """Tell the answer to near."""
    kind, told = near(some, most)
    if kind == "row":
        return "yes"
    return "no " + ",".join([shown_number(weight) for weight in told])


def answer_just(one, other):
    """Tell the answer to just."""
    told = just(one, other)
    return "rows " + shown_number(told[1]) if told[0] == "rows" else told[0]


def answer_cover(one, other):
    """Tell the answer to cover."""
    return shown_number(len(cover(one, other)))


def answer_spread(one, other):
    """Tell the answer to spread."""
    return shown_number(len(spread(one, other)))


MAKERS = {"move": move_set, "grow": grow_set, "sums": add_sets, "differences": part_sets}

ANSWERS = {
    "show": answer_show, "many": answer_many, "ways": answer_ways, "fourfold": answer_fourfold,
    "form": answer_form, "row": answer_row, "near": answer_near, "just": answer_just,
    "cover": answer_cover, "spread": answer_spread,
}


def is_name(word):
    """Tell of a text whether it is a name that a desk knows."""
    return len(word) == 1 and word in NAMES


def is_word(word, kind):
    """Tell of a text whether it is written as a word of this kind is."""
    return is_number_text(word) if kind == "N" else is_name(word)


def need_deed(words):
    """Refuse with NoDeed words that are no row which a desk knows."""
    kinds = WORDS_BEHIND.get(words[0])
    if kinds is None or len(words) != len(kinds) + 1:
        raise NoDeed("a row with another first word, or with too few or too many words behind it")
    if not all(is_word(word, kind) for word, kind in zip(words[1:], kinds)):
        raise NoDeed("a row with a word that is no name, or no number, where one is asked")


class Desk:
    """Sets kept by names."""

    def __init__(self):
        """Keep no set at first."""
        self.kept = {}

    def say(self, row):
        """Do what a row of text asks for, and answer with a text."""
        if not isinstance(row, str):
            raise NoDeed("not a text")
        words = row.split(" ")
        deed = words[0]
        if deed == "set":
            return self.keep_written(row)
        need_deed(words)
        things = self.things_asked(words)
        if deed in MAKERS:
            maker = MAKERS[deed]
            # A set that is moved or grown keeps its name; others are kept by the last one.
            name = words[3] if WORDS_BEHIND[deed] == "SSK" else words[1]
            return self.keep(name, maker(*things))
        answer = ANSWERS[deed]
        return answer(*things)

    def keep_written(self, row):
        """Keep the set that is written in a row behind its first word and a name."""
        # Only two blanks part the row: those behind them are of the set's own text.
        parts = row.split(" ", 2)
        if len(parts) != 3 or not is_name(parts[1]):
            raise NoDeed("no name and no text behind set")
        return self.keep(parts[1], read_set(parts[2]))

    def keep(self, name, some):
        """Keep a set by a name, and answer how many numbers it has."""
        if len(some) > MOST_NUMBERS:
            raise NoSet("a set of more than sixty numbers")
        self.kept[name] = some
        return shown_number(len(some))

    def set_by(self, name):
        """Tell the set that is kept by a name."""
        if name not in self.kept:
            raise NoNumber("a name that keeps no set")
        return self.kept[name]

    def things_asked(self, words):
        """Tell the sets and numbers that the words of a row ask for."""
        told = []
        for word, kind in zip(words[1:], WORDS_BEHIND[words[0]]):
            if kind == "S":
                told.append(self.set_by(word))
            elif kind == "N":
                told.append(int(word))
        return told
