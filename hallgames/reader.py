"""Reads a text by a grammar, up to the first place where no text of the grammar goes on."""

LONGEST_NAME = 16
LINE_FEED = 10


class GrammarFault(ValueError):
    # The place is how many bytes stand before the fault.
    def __init__(self, place):
        self.place = place


def bytes_of(signs):
    return [ord(sign) for sign in signs]


def agreed(source, place, row):
    # How many bytes of the row, from its first on, stand in the source at this place.
    same = 0
    for byte, wanted in zip(source[place:place + len(row)], row):
        if byte != wanted:
            return same
        same += 1
    return same


def is_digit(byte):
    return ord("0") <= byte <= ord("9")


def is_letter(byte):
    return ord("A") <= byte <= ord("Z") or ord("a") <= byte <= ord("z")


def leads_on(value, least, most):
    # Whether a number from least to most begins with the digits of value.
    if value == 0:
        return False
    lowest = value
    highest = value
    while lowest <= most:
        if highest >= least:
            return True
        lowest = lowest * 10
        highest = highest * 10 + 9
    return False


class Reader:
    def __init__(self, source):
        self.source = source
        self.place = 0

    def peek(self):
        # Behind the last byte it answers a number that is no byte.
        if self.place < len(self.source):
            return self.source[self.place]
        return -1

    def agreed_with(self, word):
        return agreed(self.source, self.place, bytes_of(word))

    def choice(self, words):
        # The number of the word that stands here. No word may begin with another one of them.
        longest = 0
        for number, word in enumerate(words):
            same = self.agreed_with(word)
            if same == len(word):
                self.place += same
                return number
            longest = max(longest, same)
        raise GrammarFault(self.place + longest)

    def word(self, word):
        self.row(bytes_of(word))

    def row(self, row):
        same = agreed(self.source, self.place, row)
        if same < len(row):
            raise GrammarFault(self.place + same)
        self.place += same

    def line_ahead(self):
        # The bytes up to the next line feed, or all that are left. The reader stays where it is.
        end = self.place
        while end < len(self.source) and self.source[end] != LINE_FEED:
            end += 1
        return self.source[self.place:end]

    def number(self, least, most):
        value = 0
        while is_digit(self.peek()):
            longer = value * 10 + self.peek() - ord("0")
            if not leads_on(longer, least, most):
                break
            value = longer
            self.place += 1
        if value < least:
            raise GrammarFault(self.place)
        return value

    def name(self):
        begun = self.place
        if not is_letter(self.peek()):
            raise GrammarFault(begun)
        while self.place - begun < LONGEST_NAME and (is_letter(self.peek()) or is_digit(self.peek())):
            self.place += 1
        return self.source[begun:self.place]

    def finish(self):
        if self.place < len(self.source):
            raise GrammarFault(self.place)


def is_name(source):
    reader = Reader(source)
    try:
        reader.name()
        reader.finish()
    except GrammarFault:
        return False
    return True
