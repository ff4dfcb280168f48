"""A tale's text, read strictly: read_tale answers a Tale, or raises NoTale."""

LINE_FEED = 10
BLANK = 32
QUOTE = 34
SEMICOLON = 59
EQUALS = 61

MOST_NAME = 12
MOST_STRING = 255
MOST_WHEN_LINE = 40
MOST_VARS = 24
MOST_CHOICES = 16
MOST_WHENS = 128
MOST_SHOWS = 64
MOST_WONS = 16
MOST_LOSTS = 16
MOST_PARTS = 16

LETTERS = "abcdefghijklmnopqrstuvwxyz"
DIGITS = "0123456789"
SIGNS = ("=", ";")
KEPT_WORDS = ("var", "when", "show", "won", "lost", "if", "do", "say", "is", "not", "and")


class NoTale(ValueError):
    pass


def demand(fits):
    if not fits:
        raise NoTale()


def is_small_letter(byte):
    return 97 <= byte <= 122


def is_big_letter(byte):
    return 65 <= byte <= 90


def is_digit(byte):
    return 48 <= byte <= 57


def is_name_byte(byte):
    return is_small_letter(byte) or is_digit(byte)


def plain_line(line):
    plain = []
    for byte in line:
        if is_big_letter(byte):
            plain.append(byte + 32)
        elif byte != BLANK or (len(plain) > 0 and plain[-1] != BLANK):
            plain.append(byte)
    if len(plain) > 0 and plain[-1] == BLANK:
        plain.pop()
    return tuple(plain)


def name_end(text, begin):
    end = begin
    while end < len(text) and is_name_byte(text[end]):
        end = end + 1
    demand(end - begin <= MOST_NAME)
    return end


def string_end(text, begin):
    end = begin
    while end < len(text) and text[end] != QUOTE:
        demand(32 <= text[end] <= 126)
        end = end + 1
    demand(end < len(text))
    demand(end - begin <= MOST_STRING)
    return end


def letter_or_digit(byte):
    if is_digit(byte):
        return DIGITS[byte - 48]
    return LETTERS[byte - 97]


def name_of(row):
    return "".join([letter_or_digit(byte) for byte in row])


def words_of(text):
    # A name or a sign is kept as a text and a string as a tuple of its bytes,
    # so that a string is never taken for a name that has the same letters.
    words = []
    at = 0
    while at < len(text):
        byte = text[at]
        end = at + 1
        if is_small_letter(byte):
            end = name_end(text, at)
            words.append(name_of(text[at:end]))
        elif byte == QUOTE:
            closing = string_end(text, at + 1)
            words.append(tuple(text[at + 1:closing]))
            end = closing + 1
        elif byte == EQUALS:
            words.append("=")
        elif byte == SEMICOLON:
            words.append(";")
        else:
            demand(byte == BLANK or byte == LINE_FEED)
        at = end
    return words


class Reader:
    def __init__(self, words):
        self.words = words
        self.at = 0

    def at_end(self):
        return self.at == len(self.words)

    def take(self):
        demand(not self.at_end())
        word = self.words[self.at]
        self.at = self.at + 1
        return word

    def take_if(self, wanted):
        if self.at_end() or self.words[self.at] != wanted:
            return False
        self.at = self.at + 1
        return True

    def must_take(self, wanted):
        demand(self.take() == wanted)

    def take_name(self):
        word = self.take()
        demand(isinstance(word, str) and word not in SIGNS)
        return word

    def take_string(self):
        word = self.take()
        demand(isinstance(word, tuple))
        return word


class Tale:
    # Vars and their values are kept by their places, since those are what state answers.
    def __init__(self):
        self.places = {}
        self.choices = []
        self.whens = []
        self.shows = []
        self.wons = []
        self.losts = []


class When:
    def __init__(self, line, condition, change, told):
        self.line = line
        self.condition = condition
        self.change = change
        self.told = told


class Show:
    def __init__(self, told, condition):
        self.told = told
        self.condition = condition


class Part:
    def __init__(self, place, choice, wanted):
        self.place = place
        self.choice = choice
        self.wanted = wanted


def read_choices(reader):
    choices = {}
    while not reader.take_if(";"):
        choice = reader.take_name()
        demand(choice not in choices)
        choices[choice] = len(choices)
    demand(2 <= len(choices) <= MOST_CHOICES)
    return choices


def read_var(reader, tale):
    name = reader.take_name()
    demand(name not in KEPT_WORDS)
    demand(name not in tale.places)
    reader.must_take("=")
    tale.choices.append(read_choices(reader))
    tale.places[name] = len(tale.places)


def read_part(reader, tale):
    name = reader.take_name()
    demand(name in tale.places)
    place = tale.places[name]
    wanted = reader.take_if("is")
    if not wanted:
        reader.must_take("not")
    choice = reader.take_name()
    demand(choice in tale.choices[place])
    return Part(place, tale.choices[place][choice], wanted)


def read_condition(reader, tale):
    parts = [read_part(reader, tale)]
    while reader.take_if("and"):
        parts.append(read_part(reader, tale))
    demand(len(parts) <= MOST_PARTS)
    return parts


def read_change(reader, tale):
    # A change has the form of a condition, but for two things.
    parts = read_condition(reader, tale)
    demand(all([part.wanted for part in parts]))
    demand(len(set([part.place for part in parts])) == len(parts))
    return parts


def read_needed_condition(reader, tale):
    reader.must_take("if")
    return read_condition(reader, tale)


def read_free_condition(reader, tale):
    # No parts at all: such a condition always holds.
    if reader.take_if("if"):
        return read_condition(reader, tale)
    return []


def read_free_change(reader, tale):
    if reader.take_if("do"):
        return read_change(reader, tale)
    return []


def is_when_line(row):
    if not 1 <= len(row) <= MOST_WHEN_LINE:
        return False
    if not all([is_name_byte(byte) or byte == BLANK for byte in row]):
        return False
    return plain_line(row) == row


def read_when(reader, tale):
    line = reader.take_string()
    demand(is_when_line(line))
    condition = read_free_condition(reader, tale)
    change = read_free_change(reader, tale)
    reader.must_take("say")
    return When(line, condition, change, reader.take_string())


def read_show(reader, tale):
    told = reader.take_string()
    return Show(told, read_free_condition(reader, tale))


def read_sentence(reader, tale):
    if reader.take_if("when"):
        tale.whens.append(read_when(reader, tale))
    elif reader.take_if("show"):
        tale.shows.append(read_show(reader, tale))
    elif reader.take_if("won"):
        tale.wons.append(read_needed_condition(reader, tale))
    else:
        reader.must_take("lost")
        tale.losts.append(read_needed_condition(reader, tale))
    reader.must_take(";")


def read_tale(text):
    reader = Reader(words_of(text))
    tale = Tale()
    while reader.take_if("var"):
        read_var(reader, tale)
    while not reader.at_end():
        read_sentence(reader, tale)
    demand(1 <= len(tale.choices) <= MOST_VARS)
    demand(1 <= len(tale.whens) <= MOST_WHENS)
    demand(len(tale.shows) <= MOST_SHOWS)
    demand(1 <= len(tale.wons) <= MOST_WONS)
    demand(len(tale.losts) <= MOST_LOSTS)
    return tale
