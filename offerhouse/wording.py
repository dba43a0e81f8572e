"""How rules are written: names, numbers, and rules read from their words."""

from offerhouse.errors import BadRule
from offerhouse.rules import After, Bands, Blocks, Cheaper, Dearer, Each, Fee, Flat, Named, Only, Roomy, Steps, Sum

LETTERS = "abcdefghijklmnopqrstuvwxyz"
FIGURES = "0123456789"
OWN_WORDS = (
    "each", "from", "to", "flat", "bands", "steps", "blocks", "at", "times",
    "plus", "or", "max", "only", "after", "roomy", "fee",
)
MOST_LETTERS = 8
MOST_FIGURES = 40
MOST_ROWS = 20
MOST_BLOCKS = 40
MOST_PAIRS_AROUND = 20


def is_name(text):
    if not 1 <= len(text) <= MOST_LETTERS or text in OWN_WORDS:
        return False
    return all([sign in LETTERS for sign in text])


def number_text(number):
    return str(number)


def number_of(text):
    figures = text[1:] if text.startswith("-") else text
    if not are_figures(figures) or text == "-0":
        raise BadRule(f"{text!r} is no number")
    return int(text)


def are_figures(text):
    if not 1 <= len(text) <= MOST_FIGURES or (text[0] == "0" and len(text) > 1):
        return False
    return all([sign in FIGURES for sign in text])


# The words of a text, taken one after another. Behind the last one come empty words, which nothing is written with, so
# that a text that ends too early is refused like one with a wrong word.
class Words:
    def __init__(self, text):
        self.words = text.split(" ")
        self.place = 0

    def coming(self):
        return self.words[self.place] if self.place < len(self.words) else ""

    def taken(self):
        word = self.coming()
        self.place += 1
        return word

    def at_end(self):
        return self.place == len(self.words)

    def expect(self, asked):
        word = self.taken()
        if word != asked:
            raise BadRule(f"{word!r} stands where {asked!r} is asked")

    def number(self):
        return number_of(self.taken())

    def number_from(self, least):
        number = self.number()
        if number < least:
            raise BadRule(f"{number} is less than {least}")
        return number


def read_rule(text):
    words = Words(text)
    rule = rule_from(words, 0)
    if not words.at_end():
        raise BadRule("the rule ends ahead of the text")
    return rule


# `around` is in how many pairs of brackets the rule stands.
def rule_from(words, around):
    word = words.taken()
    if word == "(":
        return bracketed_from(words, around)
    if word == "each":
        return each_from(words)
    if word == "flat":
        return flat_from(words)
    if word == "bands":
        return Bands(rows_from(words))
    if word == "steps":
        return Steps(rows_from(words))
    if word == "blocks":
        return blocks_from(words)
    if not is_name(word):
        raise BadRule(f"no rule begins with {word!r}")
    return Named(word)


def each_from(words):
    unit = words.number()
    words.expect("from")
    span = span_from(words)
    return Each(unit, span[0], span[1])


def flat_from(words):
    price = words.number()
    words.expect("from")
    span = span_from(words)
    return Flat(price, span[0], span[1])


def span_from(words):
    low = words.number_from(0)
    words.expect("to")
    return (low, words.number_from(low))


def rows_from(words):
    rows = []
    least_top = 0
    # Only rows have a colon, so that the first word without one is no row any more.
    while ":" in words.coming():
        row = row_of(words.taken())
        if row[0] < least_top:
            raise BadRule("the tops of the rows do not ascend from 0 on")
        rows.append(row)
        least_top = row[0] + 1
    if not 1 <= len(rows) <= MOST_ROWS:
        raise BadRule("there are no rows, or too many")
    return rows


def row_of(word):
    # A second colon is left to the unit, which is no number then.
    parts = word.partition(":")
    return (number_of(parts[0]), number_of(parts[2]))


def blocks_from(words):
    size = words.number_from(1)
    words.expect("at")
    price = words.number()
    words.expect("times")
    many = words.number_from(1)
    if many > MOST_BLOCKS:
        raise BadRule("there are too many blocks")
    return Blocks(size, price, many)


def bracketed_from(words, around):
    if around > MOST_PAIRS_AROUND:
        raise BadRule("a bracket stands within too many pairs of brackets")
    one = rule_from(words, around + 1)
    rule = rule_over(one, words, around + 1)
    words.expect(")")
    return rule


def rule_over(one, words, around):
    word = words.taken()
    if word == "plus":
        return Sum(one, rule_from(words, around))
    if word == "or":
        return Cheaper(one, rule_from(words, around))
    if word == "max":
        return Dearer(one, rule_from(words, around))
    if word == "only":
        span = span_from(words)
        return Only(one, span[0], span[1])
    if word == "after":
        return After(one, words.number_from(0))
    if word == "roomy":
        return Roomy(one)
    if word == "fee":
        return Fee(one, words.number())
    raise BadRule(f"nothing is done with a rule by {word!r}")
