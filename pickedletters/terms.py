"""Terms and patterns, kept as they are told: one list of whole numbers, a row's terms behind its length."""

NUMBER = 0
WORD = 1
TOKEN = 2
ROW = 3
ANYTHING = 4
NAME = 5

# The highest number that may stand behind each kind; anything has none behind it.
HIGHEST = (1000000, 99, 1000, 8, 0, 9)
DEEPEST = 8
LONGEST_TERM = 60


# Anything is told by its kind alone, every other part by its kind and one number.
def part_length(kind):
    return 1 if kind == ANYTHING else 2


def is_part(told, place, last_kind):
    if place >= len(told) or told[place] > last_kind:
        return False
    if told[place] == ANYTHING:
        return True
    return place + 1 < len(told) and told[place + 1] <= HIGHEST[told[place]]


# The place behind what begins at start, None if nothing whole is told there.
# last_kind is ROW for a term, NAME for a pattern: a pattern may have two kinds more.
def end_of(told, start, last_kind):
    place = start
    # How many terms are still to come, for each row that is gone into: its length is how deep the next part is.
    lacking = [1]
    while len(lacking) > 0:
        if len(lacking) > DEEPEST or not is_part(told, place, last_kind):
            return None
        kind = told[place]
        lacking[-1] -= 1
        if kind == ROW:
            lacking.append(told[place + 1])
        while len(lacking) > 0 and lacking[-1] == 0:
            lacking.pop()
        place += part_length(kind)
    return place


def is_term(told):
    return len(told) <= LONGEST_TERM and end_of(told, 0, ROW) == len(told)


# Every part of a term is two numbers, so its kinds stand at every second place.
def has_token_from(term, first):
    for place in range(0, len(term), 2):
        if term[place] == TOKEN and term[place + 1] >= first:
            return True
    return False


# Whether the token stands in the pattern, or a name that has it as value.
def asks_for(pattern, token, names):
    wanted = [TOKEN, token]
    place = 0
    while place < len(pattern):
        part = pattern[place:place + part_length(pattern[place])]
        if part == wanted or (part[0] == NAME and names[part[1]] == wanted):
            return True
        place += len(part)
    return False
