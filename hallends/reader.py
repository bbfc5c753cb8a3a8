"""Texts, and how they are read from the left to the first place where they leave the grammar."""

# Every sign that some rules' text or position's line may have.
KNOWN = "\n #./0123456789ABCDEFGHIJKLMNOPQRSTUVWXYZabcdefghijklmnopqrstuvwxyz"
# Stands for every other byte: no grammar has it, so it is a fault wherever it stands.
UNKNOWN = "?"


class Astray(Exception):
    """No text of the grammar goes on at this place."""

    def __init__(self, place):
        Exception.__init__(self)
        self.place = place


class Reader:
    """A text and the place up to which it has been read."""

    def __init__(self, text):
        self.text = text
        self.place = 0

    def ahead(self):
        """The sign at the place; an empty text at the end."""
        return self.text[self.place:self.place + 1]

    def take(self, word):
        self.choose((word,))

    def choose(self, words):
        """Read one of the words, none of which begins another; answer its number."""
        for number, word in enumerate(words):
            if self.text.startswith(word, self.place):
                self.place += len(word)
                return number
        raise Astray(self.place + max([self.shared_length(word) for word in words]))

    def shared_length(self, word):
        """How many signs of the word's beginning stand at the place."""
        length = 0
        while length < len(word) and self.text.startswith(word[:length + 1], self.place):
            length += 1
        return length

    def take_one_of(self, signs):
        """Read one sign out of the tuple signs and answer it."""
        sign = self.ahead()
        if sign not in signs:
            raise Astray(self.place)
        self.place += 1
        return sign

    def take_name(self, longest):
        """Read a letter, then letters and digits, in all as many as longest at most."""
        begin = self.place
        if not self.ahead().isalpha():
            raise Astray(self.place)
        while self.place - begin < longest and self.ahead().isalnum():
            self.place += 1

    def take_number(self, least, greatest):
        """Read a number from least (1 or more) to greatest, without a 0 in front."""
        number = 0
        while self.ahead().isdigit():
            longer = 10 * number + int(self.ahead())
            if not begins_number(longer, least, greatest):
                break
            number = longer
            self.place += 1
        if number < least:
            raise Astray(self.place)
        return number

    def take_end(self):
        if self.place < len(self.text):
            raise Astray(self.place)


def begins_number(digits, least, greatest):
    """Whether some number from least to greatest is written with these digits first."""
    if digits == 0:
        return False
    low = digits
    high = digits
    while low <= greatest:
        if high >= least:
            return True
        low = 10 * low
        high = 10 * high + 9
    return False


def text_of(codes):
    """The bytes as a text."""
    signs = {}
    for sign in KNOWN:
        signs[ord(sign)] = sign
    return "".join([signs.get(code, UNKNOWN) for code in codes])


def codes_of(text):
    return [ord(sign) for sign in text]
