"""The marks of a text."""


def sign_kind(sign):
    """The kind of a sign: signs of one of the first two kinds make runs."""
    if "a" <= sign <= "z":
        return "letter"
    if "0" <= sign <= "9":
        return "digit"
    return "single"


def mark_end(text, at):
    """The index behind the mark, or the blank, that begins at an index."""
    kind = sign_kind(text[at])
    end = at + 1
    if kind != "single":
        while end < len(text) and sign_kind(text[end]) == kind:
            end += 1
    return end


def marks_in(text):
    """The marks of a string, each with its line and its place there."""
    marks = []
    line = 0
    begin = 0
    at = 0
    while at < len(text):
        end = mark_end(text, at)
        if text[at] != " ":
            marks.append((line, at - begin, text[at:end]))
        if text[at] == "\n":
            line += 1
            begin = end
        at = end
    return tuple(marks)
