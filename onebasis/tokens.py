"""Texts as rows of tokens: words, numbers, and signs by themselves, with blanks between them."""

LETTERS = "abcdefghijklmnopqrstuvwxyz"
DIGITS = "0123456789"
SIGNS = "[]<>*|:"
BLANK = " "
# All of them, ascending.
EVERY_SIGN = " *0123456789:<>[]abcdefghijklmnopqrstuvwxyz|"


def goes_on(token, sign):
    """Whether the sign behind the token makes it a longer one."""
    last = token[-1]
    return (last in LETTERS and sign in LETTERS) or (last in DIGITS and sign in DIGITS)


def end_of_token(text, at):
    """Where the token that begins at this place of the text ends; a sign that is none counts as one."""
    end = at + 1
    while end < len(text) and goes_on(text[end - 1], text[end]):
        end += 1
    return end


def is_word(token):
    """Whether the token is a word."""
    return token[0] in LETTERS


def tokens_of(text):
    """The list of all tokens of a text."""
    found = []
    at = 0
    while at < len(text):
        if text[at] == BLANK:
            at += 1
        else:
            end = end_of_token(text, at)
            found.append(text[at:end])
            at = end
    return found


def word_of(number):
    """The word with this number of a, b, .. z, aa, ab, .."""
    word = ""
    left = number + 1
    while left:
        left, k = divmod(left - 1, len(LETTERS))
        word = LETTERS[k] + word
    return word
