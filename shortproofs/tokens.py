"""Parts a text into its tokens."""

from shortproofs.faults import NO_TOKEN, Fault

LETTERS = "ABCDEFGHIJKLMNOPQRSTUVWXYZabcdefghijklmnopqrstuvwxyz"
DIGITS = "0123456789"
SIGNS = "(),:;>~"
BLANKS = " \t\n"
REMARK = "#"
OTHER = "?"
RESERVED = ("axiom", "row", "goal")
LONGEST_NAME = 16
GREATEST_NUMBER = 1000000000
MOST_DIGITS = 10

# The text's end is a token, too: the only one without a sign.
END = ""


def as_signs(text):
    """The text's bytes as one text of signs, in which OTHER stands for all bytes that only remarks may have."""
    signs = {}
    for sign in LETTERS + DIGITS + SIGNS + BLANKS + REMARK:
        signs[ord(sign)] = sign
    return "".join([signs.get(byte, OTHER) for byte in text])


def remark_end(signs, place):
    end = signs.find("\n", place)
    if end < 0:
        return len(signs)
    return end


def token_place(signs, place):
    """The place where the next token begins, behind blanks and remarks."""
    while place < len(signs) and signs[place] in BLANKS + REMARK:
        if signs[place] == REMARK:
            place = remark_end(signs, place)
        else:
            place = place + 1
    return place


def token_end(signs, place):
    """The place behind the token that begins at the place."""
    end = place + 1
    if signs[place].isalpha():
        while end < len(signs) and signs[end].isalnum():
            end = end + 1
    elif signs[place].isdigit():
        while end < len(signs) and signs[end].isdigit():
            end = end + 1
    return end


def is_number(word):
    if len(word) > 1 and word[0] == "0":
        return False
    return len(word) <= MOST_DIGITS and int(word) <= GREATEST_NUMBER


def is_token(word):
    if word[0].isalpha():
        return len(word) <= LONGEST_NAME
    if word[0].isdigit():
        return is_number(word)
    return word in SIGNS


def is_name(word):
    """Whether a token is a name."""
    return word[:1].isalpha() and word not in RESERVED


def tokens_of(text):
    """The text's tokens, each with its place, the text's end behind them; a Fault if there's no token somewhere."""
    signs = as_signs(text)
    tokens = []
    place = token_place(signs, 0)
    while place < len(signs):
        end = token_end(signs, place)
        word = signs[place:end]
        if not is_token(word):
            raise Fault(NO_TOKEN, place)
        tokens.append((word, place))
        place = token_place(signs, end)
    tokens.append((END, len(signs)))
    return tokens
