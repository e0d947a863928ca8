"""The tokens of a table's text: names, words, numbers, signs and the text's end."""

from buildanswers.faults import NO_TOKEN, TableFault

NAME = "name"
NUMBER = "number"
END = "end"
WORDS = ("columns", "row", "ask", "times")
SIGNS = ",:;-"
BLANKS = " \t\n"
REMARK = "#"
KNOWN = (
    "ABCDEFGHIJKLMNOPQRSTUVWXYZ"
    "abcdefghijklmnopqrstuvwxyz"
    "0123456789,:;- \t\n#"
)
UNKNOWN = "?"
LONGEST_NAME = 16
GREATEST_NUMBER = 1000000000
LONGEST_NUMBER = 10


class Token:
    """One token. The kind of a word or a sign is its own spelling."""

    def __init__(self, kind, spelling, place):
        self.kind = kind
        self.spelling = spelling
        self.place = place


def as_signs(codes):
    """Spell bytes as a text of as many signs; a byte that means nothing outside remarks becomes UNKNOWN."""
    spelled = {}
    for sign in KNOWN:
        spelled[ord(sign)] = sign
    return "".join([spelled.get(code, UNKNOWN) for code in codes])


def tokens_of(signs):
    """All tokens in order, the text's end as the last one."""
    tokens = []
    place = behind_gap(signs, 0)
    while place < len(signs):
        token = token_at(signs, place)
        tokens.append(token)
        place = behind_gap(signs, place + len(token.spelling))
    tokens.append(Token(END, "", len(signs)))
    return tokens


def behind_gap(signs, place):
    """The first place from this one on that is neither in a blank nor in a remark."""
    while place < len(signs):
        if signs[place] in BLANKS:
            place += 1
        elif signs[place] == REMARK:
            place = behind_remark(signs, place)
        else:
            break
    return place


def behind_remark(signs, place):
    end = signs.find("\n", place)
    if end < 0:
        return len(signs)
    return end


def token_at(signs, place):
    sign = signs[place]
    if sign.isalpha():
        return name_at(signs, place)
    if sign.isdigit():
        return number_at(signs, place)
    if sign in SIGNS:
        return Token(sign, sign, place)
    raise TableFault(NO_TOKEN, place)


def name_at(signs, place):
    end = place
    while end < len(signs) and signs[end].isalnum():
        end += 1
    spelling = signs[place:end]
    if len(spelling) > LONGEST_NAME:
        raise TableFault(NO_TOKEN, place)
    if spelling in WORDS:
        return Token(spelling, spelling, place)
    return Token(NAME, spelling, place)


def number_at(signs, place):
    end = place
    while end < len(signs) and signs[end].isdigit():
        end += 1
    spelling = signs[place:end]
    if not is_number(spelling):
        raise TableFault(NO_TOKEN, place)
    return Token(NUMBER, spelling, place)


def is_number(digits):
    if len(digits) > 1 and digits[0] == "0":
        return False
    # int refuses some thousand digits, so the length is looked at first.
    return len(digits) <= LONGEST_NUMBER and int(digits) <= GREATEST_NUMBER
