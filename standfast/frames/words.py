"""The words of a line, taken one after another from the left."""

from standfast.errors import StandfastError
from standfast.frames.defaults import NOTHING
from standfast.written import read_number, read_whole

LETTERS = "abcdefghijklmnopqrstuvwxyz"
IN_NAMES = "abcdefghijklmnopqrstuvwxyz0123456789_"


class Unexpected(StandfastError):
    """A word is not as expected. Readers of whole texts catch this and tell the place."""

    def __init__(self, column, expected):
        self.column = column
        self.expected = expected


class Words:
    """The words of a line with their columns, and how many of them are taken."""

    def __init__(self, line):
        said = line.partition("#")[0]
        self.words = []
        self.columns = []
        self.taken = 0
        column = 1
        for word in said.split(" "):
            if word != "":
                self.words.append(word)
                self.columns.append(column)
            column += len(word) + 1
        # At the end stands an empty word, which is never as expected.
        self.words.append("")
        self.columns.append(len(said) + 1)

    def is_at_end(self):
        """Return True if all words are taken."""
        return self.next_word() == ""

    def next_word(self):
        """Return the next word, the empty text at the end."""
        return self.words[self.taken]

    def next_column(self):
        """Return the column of the next word, or of the end."""
        return self.columns[self.taken]

    def take(self, expected, is_right):
        """Take the next word and return it if it is right."""
        if not is_right:
            raise Unexpected(self.next_column(), expected)
        word = self.next_word()
        self.taken += 1
        return word

    def take_word(self, word):
        """Take this very word."""
        return self.take(word, self.next_word() == word)

    def take_one_of(self, choice, expected):
        """Take one of several words and return it."""
        return self.take(expected, self.next_word() in choice)

    def take_name(self):
        """Take a name and return it."""
        return self.take("name", is_name(self.next_word()))

    def take_number(self):
        """Take a number and return its ratio."""
        found = read_number(self.next_word())
        self.take("number", found is not None)
        return found

    def take_whole(self):
        """Take a whole number and return it."""
        found = read_whole(self.next_word())
        self.take("whole number", found is not None)
        return found

    def take_pair(self):
        """Take two numbers and return the pair of their ratios."""
        first = self.take_number()
        return (first, self.take_number())

    def take_pair_if_there(self):
        """Take two numbers if the next word is a number, otherwise return a pair of 0."""
        return NOTHING if read_number(self.next_word()) is None else self.take_pair()

    def skips(self, word):
        """Return True and take this word if it is the next one."""
        is_next = self.next_word() == word
        if is_next:
            self.taken += 1
        return is_next

    def finish(self, expected):
        """Refuse any further word."""
        if not self.is_at_end():
            raise Unexpected(self.next_column(), expected)


def is_name(word):
    """Return True if a word can be a name."""
    if word == "" or len(word) > 20 or word[0] not in LETTERS:
        return False
    return all([letter in IN_NAMES for letter in word])
