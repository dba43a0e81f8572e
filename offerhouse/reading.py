"""How books are written: a line for each offer."""

from offerhouse.books import Book, check_many, check_names
from offerhouse.errors import BadLine
from offerhouse.wording import read_rule

BEGINNING = "offer "
BEHIND_NAME = ": "


def read_book(text):
    lines = text.split("\n") if text != "" else []
    check_many(len(lines))
    # Each fault is looked for in all lines ahead of the next one.
    pairs = [parted(line) for line in lines]
    check_names([name for name, words in pairs])
    return Book([(name, read_rule(words)) for name, words in pairs])


# The name and the words of the rule.
def parted(line):
    if not line.startswith(BEGINNING):
        raise BadLine("a line does not begin like an offer")
    parts = line[len(BEGINNING):].partition(BEHIND_NAME)
    if parts[1] == "":
        raise BadLine("a line has no end of the name")
    return (parts[0], parts[2])


def show_book(book):
    return "\n".join([BEGINNING + name + BEHIND_NAME + rule.written() for name, rule in book.rules.items()])
