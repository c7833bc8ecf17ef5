"""Games, read from texts: the first line tells a rule and its start, each other one asks for a wish."""

from lateknow.bags import Filler
from lateknow.errors import NoState, NoText
from lateknow.hire import Buyer
from lateknow.line import Both
from lateknow.shelf import Front
from lateknow.stores import Keeper
from lateknow.ways import Changer

MOST_ASKS = 200
MOST_FIGURES = 19
FIRST_WORDS = ("line", "shelf", "hire", "ways", "store", "bags")

# Of the other first words the rule itself refuses a start that is too short or too long.
LENGTHS = {"hire": 1, "ways": 3, "bags": 1}


def rule_of(word, start):
    if word == "line":
        return Both(start)
    if word == "shelf":
        return Front(start)
    if word == "hire":
        return Buyer(start[0])
    if word == "ways":
        return Changer(start[0], start[1], start[2])
    if word == "store":
        return Keeper(start)
    return Filler(start[0])


def world_start(word, start):
    rule = rule_of(word, start)
    return (rule.world, rule.state())


def are_figures(text):
    # Python reads some figures and signs that are none here, and refuses to read very many.
    if not 1 <= len(text) <= MOST_FIGURES or not all(["0" <= sign <= "9" for sign in text]):
        return False
    return text == "0" or text[0] != "0"


def written(word):
    """The number that a word writes; the word itself, where it writes none."""
    if are_figures(word):
        return int(word)
    if word.startswith("-") and are_figures(word[1:]) and word != "-0":
        return -int(word[1:])
    return word


def parted(line):
    """The first word of a line, and a tuple of what the others write."""
    words = line.split(" ")
    return (words[0], tuple([written(word) for word in words[1:]]))


def is_opening(word, start):
    if word not in FIRST_WORDS or len(start) != LENGTHS.get(word, len(start)):
        return False
    try:
        rule_of(word, start)
    except NoState:
        return False
    return True


def asked_wish(word, world, line):
    """The wish for which a line asks, in a game with that first word; None where it asks for none."""
    ask = parted(line)
    if ask[0] != "ask":
        return None
    if word == "ways":
        wish = ask[1]
    else:
        wish = ask[1][0] if len(ask[1]) == 1 else None
    return wish if world.is_wish(wish) else None


def asked_wishes(word, world, rows):
    wishes = []
    for row, line in rows:
        wish = asked_wish(word, world, line)
        if wish is None or len(wishes) == MOST_ASKS:
            raise NoText(row)
        wishes.append(wish)
    return wishes


def rows_with_signs(text):
    """The lines that are not passed over, each behind the number of lines ahead of it."""
    if not isinstance(text, str):
        return []
    return [(row, line) for row, line in enumerate(text.split("\n")) if line != ""]


def read_game(text):
    rows = rows_with_signs(text)
    if not rows:
        raise NoText(0)
    first = parted(rows[0][1])
    word = first[0]
    start = first[1]
    if not is_opening(word, start):
        raise NoText(rows[0][0])
    return (word, start, asked_wishes(word, world_start(word, start)[0], rows[1:]))
