"""The signs of a text of rules, and where its words, numbers and signs begin and end."""

# The sign of each byte below 128, at the byte's own place; "?" begins nothing and is in no name.
GLYPHS = (
    "??????????\n?????????????????????"
    " ???????()??????0123456789:;????"
    "???????????????????????????????_"
    "?abcdefghijklmnopqrstuvwxyz?????"
)

RESERVED = ("not", "and", "or", "implies", "since", "once", "always", "before", "least", "within", "yes", "no")


def glyph(byte):
    return GLYPHS[byte] if byte < len(GLYPHS) else "?"


# Bytes that no rules can have become one and the same sign: no rule's name has it,
# so names that differ in such bytes alone are all names that no rule has.
def spell(row):
    return "".join([glyph(byte) for byte in row])


def is_letter(sign):
    return "a" <= sign <= "z"


def is_figure(sign):
    return "0" <= sign <= "9"


def is_in_word(sign):
    return is_letter(sign) or is_figure(sign) or sign == "_"


def is_name(token):
    return is_letter(token[0]) and token not in RESERVED


def skip_blanks(text, start):
    at = start
    while at < len(text) and (text[at] == " " or text[at] == "\n"):
        at += 1
    return at


def end_of_word(text, start):
    at = start
    while at < len(text) and is_in_word(text[at]):
        at += 1
    return at


def end_of_number(text, start):
    at = start
    while at < len(text) and is_figure(text[at]):
        at += 1
    return at


# Gives start itself back where nothing begins.
def end_of_token(text, start):
    sign = text[start]
    if is_letter(sign):
        return end_of_word(text, start)
    if is_figure(sign):
        return end_of_number(text, start)
    if sign in "():;":
        return start + 1
    return start
