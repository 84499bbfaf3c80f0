"""One process with its box, and the calls on it."""

from pickedletters.taking import clauses_told, first_to_take
from pickedletters.terms import HIGHEST, NAME, TOKEN, asks_for, has_token_from, is_term

BEGIN = 0
SEND = 1
RECEIVE = 2
TICKS = 3
STOP = 4
MAKE_TOKEN = 5
TELL_NAMES = 6
FORGET = 7
TELL_BOX = 8
TELL_COUNTS = 9

# How many whole numbers, and how many rows, stand behind each call's number.
NUMBERS_BEHIND = (0, 0, 2, 1, 0, 0, 0, 1, 0, 0)
ROWS_BEHIND = (0, 1, 1, 0, 0, 0, 0, 0, 0, 0)

DONE = 0
TAKEN = 1
TIME_OVER = 2

# Stands for the value of a name that has none: no term begins with it.
NO_VALUE = 9

WRONGLY_TOLD = -1
WRONG_END = -2
TOKEN_NOT_MADE = -3
TOO_MANY = -6
WRONG_TIME = -8

MOST_LETTERS = 60
MOST_TICKS = 1000


# A call's answer is the list of its numbers; a refusal leaves all as it was.
class Process:

    def __init__(self):
        self.box = []
        self.names = [None] * (HIGHEST[NAME] + 1)
        self.made = 0
        # How many letters stand ahead of the mark.
        self.mark = 0
        self.sent = 0
        self.taken = 0
        self.looked = 0
        # None while it doesn't wait.
        self.clauses = None
        # None if waiting doesn't end by ticks.
        self.ticks_left = None

    def send(self, term):
        if not is_term(term):
            return [WRONGLY_TOLD]
        if has_token_from(term, self.made):
            return [TOKEN_NOT_MADE]
        if len(self.box) >= MOST_LETTERS:
            return [TOO_MANY]
        self.box.append(term)
        self.sent += 1
        if self.clauses is None:
            return [DONE]
        taken = self.take_first(self.clauses, len(self.box) - 1)
        if taken is None:
            return [DONE]
        self.wait_no_more()
        return taken

    def receive(self, ends, ticks, told):
        if self.clauses is not None:
            return [WRONG_TIME]
        if ends > 1 or ticks > MOST_TICKS:
            return [WRONG_END]
        clauses = clauses_told(told)
        if clauses is None:
            return [WRONGLY_TOLD]
        taken = self.take_first(clauses, self.looking_begins(clauses))
        if taken is not None:
            return taken
        if ends == 1 and ticks == 0:
            return [TIME_OVER]
        self.clauses = clauses
        self.ticks_left = ticks if ends == 1 else None
        return [DONE]

    def pass_ticks(self, n):
        if n < 1 or n > MOST_TICKS:
            return [WRONGLY_TOLD]
        if self.ticks_left is None:
            return [DONE]
        self.ticks_left -= n
        if self.ticks_left > 0:
            return [DONE]
        self.wait_no_more()
        return [TIME_OVER]

    def stop(self):
        if self.clauses is None:
            return [WRONG_TIME]
        self.wait_no_more()
        return [DONE]

    def make_token(self):
        if self.clauses is not None:
            return [WRONG_TIME]
        if self.made > HIGHEST[TOKEN]:
            return [TOO_MANY]
        self.made += 1
        self.mark = len(self.box)
        return [self.made - 1]

    def names_told(self):
        told = []
        for value in self.names:
            told.extend([NO_VALUE] if value is None else value)
        return told

    def forget(self, name):
        if self.clauses is not None:
            return [WRONG_TIME]
        if name > HIGHEST[NAME]:
            return [WRONGLY_TOLD]
        had_value = self.names[name] is not None
        self.names[name] = None
        return [1 if had_value else 0]

    def box_told(self):
        told = [len(self.box)]
        for letter in self.box:
            told.extend(letter)
        return told

    def counts_told(self):
        return [self.sent, self.taken, self.looked, 0 if self.clauses is None else 1]

    def wait_no_more(self):
        self.clauses = None
        self.ticks_left = None

    # No letter from before the mark can have the token made last, so those needn't be looked at for it.
    def looking_begins(self, clauses):
        last_token = self.made - 1
        if self.made > 0 and all([asks_for(clause[0], last_token, self.names) for clause in clauses]):
            return self.mark
        return 0

    # Takes the first letter from start on that some clause takes, and tells it; None if there's none.
    def take_first(self, clauses, start):
        place = start
        while place < len(self.box):
            self.looked += 1
            taking = first_to_take(clauses, self.box[place], self.names)
            if taking is not None:
                self.names = taking[1]
                self.take_out(place)
                return [TAKEN, place, taking[0]]
            place += 1
        return None

    def take_out(self, place):
        self.box.pop(place)
        self.taken += 1
        if place < self.mark:
            self.mark -= 1


def end_of_call(calls, start):
    number = calls[start]
    end = start + 1 + NUMBERS_BEHIND[number]
    if ROWS_BEHIND[number] == 1:
        end += 1 + calls[end]
    return end


def answer(process, call):
    number = call[0]
    if number == SEND:
        return process.send(call[2:])
    if number == RECEIVE:
        return process.receive(call[1], call[2], call[4:])
    if number == TICKS:
        return process.pass_ticks(call[1])
    if number == STOP:
        return process.stop()
    if number == MAKE_TOKEN:
        return process.make_token()
    if number == TELL_NAMES:
        return process.names_told()
    if number == FORGET:
        return process.forget(call[1])
    if number == TELL_BOX:
        return process.box_told()
    if number == TELL_COUNTS:
        return process.counts_told()
    return [DONE]


def answers(calls):
    process = Process()
    answered = []
    place = 0
    while place < len(calls):
        if calls[place] == BEGIN:
            process = Process()
        end = end_of_call(calls, place)
        given = answer(process, calls[place:end])
        answered.append(len(given))
        answered.extend(given)
        place = end
    return answered
