"""The tokens of a question: words and signs."""

from orrery.errors import BadQuestion

MOST_SIGNS = 1000
WORD_SIGNS = "abcdefghijklmnopqrstuvwxyz0123456789_"
# The longer signs stand first, because the longest one that stands at a place is the token.
SIGNS = ("<=", ">=", "(", ")", ",", "!", "+", "-", "*", "<", ">", "&", "|")


def tokens(text):
    """The pairs (token, offset) of a text, and at their end ("", length of the text)."""
    if len(text) > MOST_SIGNS:
        raise BadQuestion(MOST_SIGNS)
    found = []
    at = 0
    while at < len(text):
        if text[at] == " ":
            at += 1
            continue
        token = _token_at(text, at)
        if token == "":
            raise BadQuestion(at)
        found.append((token, at))
        at += len(token)
    found.append(("", len(text)))
    return found


def is_word(token):
    """True if a token is a word, otherwise False; the end of the text is none."""
    return token != "" and token[0] in WORD_SIGNS


def _token_at(text, at):
    """The token that begins at a place, or "" if none does."""
    end = at
    while end < len(text) and text[end] in WORD_SIGNS:
        end += 1
    if end > at:
        return text[at:end]
    for sign in SIGNS:
        if text[at:at + len(sign)] == sign:
            return sign
    return ""
