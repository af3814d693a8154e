"""Texts cut into marks."""


def marks_of(text):
    """The marks of a string, each with its line and its place there."""
    marks = []
    lines = text.split("\n")
    for line, row in enumerate(lines):
        marks.extend(marks_in(row, line))
        if line < len(lines) - 1:
            marks.append((line, len(row), "\n"))
    return tuple(marks)


def marks_in(row, line):
    """The marks of one line without its newline."""
    marks = []
    at = 0
    while at < len(row):
        end = mark_end(row, at)
        if row[at] != " ":
            marks.append((line, at, row[at:end]))
        at = end
    return marks


def mark_end(row, at):
    """Where the mark that begins at a place ends."""
    kind = run_kind(row[at])
    end = at + 1
    while kind != "" and end < len(row) and run_kind(row[end]) == kind:
        end += 1
    return end


def run_kind(sign):
    """The kind of run in which a sign may stand, empty if in none."""
    if "a" <= sign <= "z":
        return "letters"
    return "digits" if "0" <= sign <= "9" else ""
