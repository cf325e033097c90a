"""Tells a text's tokens as numbers."""

from madeimage.image import told_bytes

KINDS = {"name": 0, "word": 1, "number": 2, "string": 3, "sign": 4}
PERCENT = 37


def written_bytes(text):
    # The scanner calls the sign of byte 37 rem.
    return [PERCENT] if text == "rem" else [ord(letter) for letter in text]


def token_bytes(token):
    """A number alone, what a string stands for, else the bytes as they are written."""
    if token.kind == "number":
        return [token.value]
    return written_bytes(token.value) if token.kind in ("word", "sign") else token.value


def told_tokens(found):
    """How many tokens, and what is told of each; the last of those found is the end, which is none."""
    answer = [len(found) - 1]
    for token in found[:-1]:
        answer.extend([KINDS[token.kind], token.line, token.column])
        answer.extend(told_bytes(token_bytes(token)))
    return answer
