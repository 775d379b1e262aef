"""Rules that tell which form a number takes.

A token is kept as the tuple of its bytes, so that it can be compared as it is.
"""

MOST_BYTES = 2048
MOST_LETTERS = 16
MOST_DIGITS = 4
MOST_FORMS = 8
MOST_RANGES = 64
MOST_MULTIPLE = 10000

WRONG = -22
TOO_MUCH = -28
NO_RULE = -71

NEWLINE = 10
SPACE = 32
DIGIT_0 = 48
DIGIT_9 = 57
LETTER_A = 97
LETTER_Z = 122

COLON = (58,)
SEMICOLON = (59,)
COMMA = (44,)
DOTS = (46, 46)
EQUAL = (61,)
UNEQUAL = (33, 61)
PERCENT = (37,)

WORD_N = (110,)
WORD_OR = (111, 114)
WORD_AND = (97, 110, 100)
WORD_OTHER = (111, 116, 104, 101, 114)


def run_size(t, start, low, high):
    """How many bytes from low to high stand in a row at start."""
    end = start
    while end < len(t) and low <= t[end] <= high:
        end += 1
    return end - start


def token_size(t, start):
    """How many bytes the token at start has; 0 if none begins there."""
    letters = run_size(t, start, LETTER_A, LETTER_Z)
    digits = run_size(t, start, DIGIT_0, DIGIT_9)
    # A longer run is no token at all: it isn't cut into shorter ones.
    if letters > MOST_LETTERS or digits > MOST_DIGITS:
        return 0
    # No mark begins another, so the order of the marks doesn't matter.
    for mark in (COLON, SEMICOLON, COMMA, DOTS, EQUAL, UNEQUAL, PERCENT):
        if tuple(t[start:start + len(mark)]) == mark:
            return len(mark)
    return letters + digits


def tokens_of(t):
    """The tokens of the row t; None if it can't be parted."""
    tokens = []
    start = 0
    while start < len(t):
        if t[start] in (SPACE, NEWLINE):
            start += 1
        else:
            size = token_size(t, start)
            if size == 0:
                return None
            tokens.append(tuple(t[start:start + size]))
            start += size
    return tokens


def is_word(token):
    return LETTER_A <= token[0] <= LETTER_Z


def is_number(token):
    return DIGIT_0 <= token[0] <= DIGIT_9


def number_of(token):
    number = 0
    for digit in token:
        number = number * 10 + digit - DIGIT_0
    return number


def parted_at(tokens, mark):
    """The lists of tokens before, between and behind the marks."""
    parts = []
    part = []
    for token in tokens:
        if token == mark:
            parts.append(part)
            part = []
        else:
            part.append(token)
    parts.append(part)
    return parts


def read_parts(tokens, mark, read_part):
    """What the parts between the marks are read as; None if one can't be read."""
    found = []
    for part in parted_at(tokens, mark):
        thing = read_part(part)
        if thing is None:
            return None
        found.append(thing)
    return found


# Each level of the grammar has a mark that none of the levels within it has,
# so a rule is read by parting it at one mark after the other.


def read_range(tokens):
    """The first and the last number; None if it's no range."""
    if len(tokens) == 1 and is_number(tokens[0]):
        return (number_of(tokens[0]), number_of(tokens[0]))
    if len(tokens) == 3 and is_number(tokens[0]) and tokens[1] == DOTS and is_number(tokens[2]):
        return (number_of(tokens[0]), number_of(tokens[2]))
    return None


def read_one(tokens):
    """The divisor (None without one), whether the sign is =, and the ranges; None if it's no "one"."""
    if tokens[:1] != [WORD_N]:
        return None
    divisor = None
    rest = tokens[1:]
    if rest[:1] == [PERCENT]:
        if len(rest) < 2 or not is_number(rest[1]):
            return None
        divisor = number_of(rest[1])
        rest = rest[2:]
    if len(rest) == 0 or rest[0] not in (EQUAL, UNEQUAL):
        return None
    ranges = read_parts(rest[1:], COMMA, read_range)
    if ranges is None:
        return None
    return (divisor, rest[0] == EQUAL, ranges)


def read_both(tokens):
    return read_parts(tokens, WORD_AND, read_one)


def read_either(tokens):
    return read_parts(tokens, WORD_OR, read_both)


def read_form(tokens):
    """The form's word and its either; None if it's no form."""
    if len(tokens) < 2 or not is_word(tokens[0]) or tokens[1] != COLON:
        return None
    either = read_either(tokens[2:])
    if either is None:
        return None
    return (tokens[0], either)


def read_rule(t):
    """The forms of the row t, in their order; None if it can't be parted or is no rule."""
    tokens = tokens_of(t)
    if tokens is None:
        return None
    if len(tokens) == 0:
        return []
    if tokens[-1] != SEMICOLON:
        return None
    return read_parts(tokens[:-1], SEMICOLON, read_form)


def ones_of(forms):
    """Every "one" of the forms, in one list."""
    ones = []
    for word, either in forms:
        for both in either:
            ones.extend(both)
    return ones


def ranges_of(ones):
    found = []
    for divisor, is_equal, ranges in ones:
        found.extend(ranges)
    return found


def divisors_of(ones):
    return [one[0] for one in ones if one[0] is not None]


def words_are_forms(words):
    """Whether each word may be a form and none is there twice."""
    seen = {}
    for word in words:
        if word in (WORD_N, WORD_OR, WORD_AND, WORD_OTHER) or word in seen:
            return False
        seen[word] = True
    return True


def greatest_divisor(a, b):
    """The greatest number that divides both a and b."""
    larger = a
    smaller = b
    while smaller > 0:
        rest = larger % smaller
        larger = smaller
        smaller = rest
    return larger


def least_multiple(numbers):
    """The least common multiple of the numbers, none of which is 0."""
    multiple = 1
    for number in numbers:
        multiple = multiple // greatest_divisor(multiple, number) * number
    return multiple


def judged(forms):
    """How many forms there are, or the first refusal that is due, in the order of the promise."""
    ones = ones_of(forms)
    ranges = ranges_of(ones)
    divisors = divisors_of(ones)
    if not words_are_forms([form[0] for form in forms]):
        return WRONG
    if len(forms) > MOST_FORMS or len(ranges) > MOST_RANGES:
        return TOO_MUCH
    if 0 in divisors or any([last < first for first, last in ranges]):
        return WRONG
    if least_multiple(divisors) > MOST_MULTIPLE:
        return TOO_MUCH
    return len(forms)


def pl_read(t):
    """[0, how many forms the rule t has], or [0, a refusal]."""
    if len(t) > MOST_BYTES:
        return [0, TOO_MUCH]
    forms = read_rule(t)
    if forms is None:
        return [0, NO_RULE]
    return [0, judged(forms)]


def in_ranges(value, ranges):
    return any([first <= value <= last for first, last in ranges])


def one_holds(divisor, is_equal, ranges, number):
    value = number if divisor is None else number % divisor
    return in_ranges(value, ranges) == is_equal


def both_holds(both, number):
    return all([one_holds(divisor, is_equal, ranges, number) for divisor, is_equal, ranges in both])


def either_holds(either, number):
    return any([both_holds(both, number) for both in either])


def form_of(forms, number):
    """The word of the first form that holds of the number; other, if none does."""
    for word, either in forms:
        if either_holds(either, number):
            return word
    return WORD_OTHER


def pl_form(number, t):
    """[1, how many bytes, they] for the word of the number's form by the rule t, or [0, a refusal]."""
    answer = pl_read(t)
    if answer[1] < 0:
        return answer
    word = form_of(read_rule(t), number)
    return [1, len(word)] + list(word)


def settled_from(ones):
    """The number from which on no range without a remainder is met any more."""
    without = [one for one in ones if one[0] is None]
    return max([last for first, last in ranges_of(without)], default=-1) + 1


def first_difference(forms, others, count):
    """The least number below count that has another word by the others; None if there is none."""
    for number in range(count):
        if form_of(forms, number) != form_of(others, number):
            return number
    return None


def pl_same(t, u):
    """[0, 1] if every number has the same form by both rules, else [2, the least that hasn't]; or [0, a refusal]."""
    for rule in (t, u):
        answer = pl_read(rule)
        if answer[1] < 0:
            return answer
    forms = read_rule(t)
    others = read_rule(u)
    ones = ones_of(forms + others)
    period = least_multiple(divisors_of(ones))
    if period > MOST_MULTIPLE:
        return [0, TOO_MUCH]
    # Behind the ranges remainders alone tell, and these come again with each period: one period stands for all.
    where = first_difference(forms, others, settled_from(ones) + period)
    if where is None:
        return [0, 1]
    return [2, where]
