"""A field's text: how it is read, where its first fault is, and how it is written."""

from notchcards.refusals import Fault
from notchcards.tables import NO_VALUE, Field

LETTERS = "abcdefghijklmnopqrstuvwxyz"
LINE_END = "\n"
MOST_HOLES = 6
MOST_VALUES = 8
MOST_LETS = 30
LONGEST_NAME = 12


def sign_of(code):
    """The sign that a byte stands for; one that no word may hold for all bytes that no text needs."""
    if code == 10:
        return LINE_END
    if code == 32:
        return " "
    if 48 <= code <= 57:
        return str(code - 48)
    if 97 <= code <= 122:
        return LETTERS[code - 97]
    return "?"


def words_of(text):
    """The text's words in order, empty ones too, each with how many signs stand before it."""
    words = []
    start = 0
    for line in text.split(LINE_END):
        if start > 0:
            words.append((LINE_END, start - 1))
        for word in line.split(" "):
            words.append((word, start))
            start += len(word) + 1
    return words


class Words:
    """The words of a text, gone through one by one."""

    def __init__(self, codes):
        self.words = words_of("".join([sign_of(code) for code in codes]))
        self.length = len(codes)
        self.passed = 0

    def ended(self):
        """Whether all words are passed."""
        return self.passed == len(self.words)

    def word(self):
        """The word that stands here; behind the last an empty one, which can stand nowhere."""
        if self.ended():
            return ""
        return self.words[self.passed][0]

    def take(self, may_stand):
        """Pass the word that stands here and give it back; a fault if it can't stand."""
        word = self.word()
        if not may_stand:
            raise Fault(self.length if self.ended() else self.words[self.passed][1])
        self.passed += 1
        return word


def take_number(words, least, greatest):
    """Pass a number of that range."""
    # Only a number without a needless 0 is one of these texts.
    return int(words.take(words.word() in [str(number) for number in range(least, greatest + 1)]))


def take_value(words, names):
    """Pass the name of a value; give back the value."""
    return names.index(words.take(words.word() in names))


def may_be_name(word):
    """Whether the word has a name's form."""
    # Of the signs that sign_of gives, only a to z are letters.
    return word.isalpha() and len(word) <= LONGEST_NAME and word != "is"


def read_holes(words):
    """Pass the first line; give back how many holes there are."""
    words.take(words.word() == "holes")
    return take_number(words, 1, MOST_HOLES)


def read_names(words):
    """Pass the line of values; give back their names."""
    words.take(words.word() == "values")
    names = [words.take(may_be_name(words.word()))]
    while not words.ended() and words.word() != LINE_END:
        word = words.word()
        names.append(words.take(len(names) < MOST_VALUES and word not in names and may_be_name(word)))
    return names


def read_let(words, names, lets):
    """Pass the two values behind the word let; put their change behind the lets."""
    first = take_value(words, names)
    word = words.word()
    second = names.index(words.take(
        word in names and word != names[first] and (first, names.index(word)) not in lets))
    lets.append((first, second))


def read_at(words, holes, names, table):
    """Pass what stands behind the word at; put the value into the table."""
    state = 0
    least = 0
    while words.word() != "is":
        hole = take_number(words, least, holes - 1)
        state += 1 << hole
        least = hole + 1
    words.take(table[state] == NO_VALUE)
    table[state] = take_value(words, names)


def read_field(codes):
    """The field whose text these bytes are; a fault if they are none's."""
    words = Words(codes)
    holes = read_holes(words)
    words.take(words.word() == LINE_END)
    names = read_names(words)
    lets = []
    table = [NO_VALUE] * (1 << holes)
    while not words.ended():
        words.take(words.word() == LINE_END)
        word = words.word()
        words.take(word == "at" or (word == "let" and len(lets) < MOST_LETS))
        if word == "let":
            read_let(words, names, lets)
        else:
            read_at(words, holes, names, table)
    return Field(holes, names, lets, table)


def state_line(field, state):
    """The line of a state that has a value."""
    holes = [str(hole) for hole in range(field.holes) if (state >> hole) & 1 == 1]
    return " ".join(["at"] + holes + ["is", field.names[field.table[state]]])


def one_text(field):
    """The bytes of the field's one text."""
    lines = ["holes " + str(field.holes), " ".join(["values"] + field.names)]
    for change in field.lets:
        lines.append(" ".join(["let", field.names[change[0]], field.names[change[1]]]))
    for state in range(field.state_count()):
        if field.table[state] != NO_VALUE:
            lines.append(state_line(field, state))
    return [ord(sign) for sign in "\n".join(lines)]
