"""A tale told in rules, played: answers(calls) is the function for others to call."""

from ruletales.reading import LINE_FEED, MOST_VARS, NoTale, plain_line, read_tale

READ = 0
START = 1
SAY = 2
STATUS = 3

TOO_LONG = -22
NO_TALE = -71
ENDED = -1

NO_SUCH_LINE = 0
NOT_NOW = 1
DONE = 2

GOES_ON = 0
WON = 1
LOST = 2

MOST_TEXT = 24576
MOST_LINE = 255


def holds(condition, chosen):
    for part in condition:
        if (chosen[part.place] == part.choice) != part.wanted:
            return False
    return True


def some_holds(conditions, chosen):
    for condition in conditions:
        if holds(condition, chosen):
            return True
    return False


class Game:
    def __init__(self):
        self.tale = None
        self.chosen = []

    def read(self, text):
        if len(text) > MOST_TEXT:
            return [TOO_LONG]
        try:
            tale = read_tale(text)
        except NoTale:
            return [NO_TALE]
        self.tale = tale
        return [0]

    def start(self):
        self.chosen = [0] * len(self.tale.choices)
        return [0]

    def say(self, line):
        if len(line) > MOST_LINE:
            return [TOO_LONG]
        if self.standing() != GOES_ON:
            return [ENDED]
        plain = plain_line(line)
        whens = [when for when in self.tale.whens if when.line == plain]
        if len(whens) == 0:
            return [NO_SUCH_LINE]
        for when in whens:
            if holds(when.condition, self.chosen):
                return self.turn(when)
        return [NOT_NOW]

    def turn(self, when):
        for part in when.change:
            self.chosen[part.place] = part.choice
        answer = [DONE]
        answer.extend(when.told)
        for show in self.tale.shows:
            if holds(show.condition, self.chosen):
                answer.append(LINE_FEED)
                answer.extend(show.told)
        return answer

    def standing(self):
        if some_holds(self.tale.losts, self.chosen):
            return LOST
        if some_holds(self.tale.wons, self.chosen):
            return WON
        return GOES_ON

    def state(self):
        behind = [0] * (MOST_VARS - len(self.chosen))
        return [len(self.chosen)] + self.chosen + behind

    def answer(self, number, row):
        if number == READ:
            return self.read(row)
        if number == START:
            return self.start()
        if number == SAY:
            return self.say(row)
        if number == STATUS:
            return [self.standing()]
        return self.state()


def answers(calls):
    game = Game()
    answered = []
    at = 0
    while at < len(calls):
        number = calls[at]
        at = at + 1
        row = []
        if number == READ or number == SAY:
            row = calls[at + 1:at + 1 + calls[at]]
            at = at + 1 + len(row)
        answer = game.answer(number, row)
        answered.append(len(answer))
        answered.extend(answer)
    return answered
