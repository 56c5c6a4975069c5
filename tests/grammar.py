"""The grammar of point 403, read by itself: which tokens may stand where, and so the first fault of a row of tokens.

INDEX is an INTEGER behind `occurs` and in a subscript, COUNT one ahead of `times`. Depth is not looked at.
"""

import functools
import re

GRAMMAR = """
PROGRAM     = "program" NAME "." "data" "." ENTRY* "files" "." FILE* "procedure" "." PARAGRAPH+
ENTRY       = LEVEL NAME ("picture" PICTURE)? ("occurs" INDEX)? ("value" (STRING | NUMBER))? "."
FILE        = ("input" | "output") NAME "record" NAME "."
PARAGRAPH   = NAME "." STATEMENT*
STATEMENTS  = STATEMENT+
OTHERWISE   = "else" STATEMENTS "end"
STATEMENT   = "move" SOURCE "to" REFERENCE "."
            | "set" REFERENCE "rounded"? "to" EXPRESSION OTHERWISE? "."
            | "divide" EXPRESSION "by" EXPRESSION "giving" REFERENCE "rounded"?
              ("remainder" REFERENCE)? OTHERWISE? "."
            | "if" CONDITION "then" STATEMENTS ("else" STATEMENTS)? "end" "."
            | "perform" NAME ("thru" NAME)? WAY? "."
            | "read" NAME ("at" "end" STATEMENTS)? ("bad" STATEMENTS)? "end" "."
            | "write" NAME "."
            | "show" SOURCE+ "."
            | "sort" NAME "by" NAME "descending"? "."
            | "clear" REFERENCE "."
            | "stop" "."
WAY         = COUNT "times" | REFERENCE "times" | "until" CONDITION
            | "varying" REFERENCE "from" EXPRESSION "by" EXPRESSION "until" CONDITION
SOURCE      = REFERENCE | NUMBER | STRING
REFERENCE   = NAME ("(" SUBSCRIPT ("," SUBSCRIPT)* ")")?
SUBSCRIPT   = INDEX | NAME | NAME "+" INDEX | NAME "-" INDEX
EXPRESSION  = PRODUCT (("+" | "-") PRODUCT)*
PRODUCT     = FACTOR ("*" FACTOR)*
FACTOR      = "-" FACTOR | "(" EXPRESSION ")" | NUMBER | REFERENCE
CONDITION   = CONJUNCTION ("or" CONJUNCTION)*
CONJUNCTION = SINGLE ("and" SINGLE)*
SINGLE      = "not" SINGLE | "[" CONDITION "]" | "digits" REFERENCE
            | "text" SOURCE OPERATOR SOURCE | EXPRESSION OPERATOR EXPRESSION
OPERATOR    = "=" | "<" | ">" | "<=" | ">=" | "<>"
"""
OPERATOR_WORDS = ["=", "<", ">", "<=", ">=", "<>"]
RESERVED = set("""program data files procedure picture occurs value input output record move to set rounded else end divide
by giving remainder if then perform thru times until varying from read at bad write show sort descending clear stop not and
or digits text""".split())


def read_grammar():
    rules = {}
    for part in re.split(r"\n(?=[A-Z]+ +=)", GRAMMAR.strip()):
        name, _, body = part.partition(" ")
        marks = re.findall(r'"[^"]+"|[A-Z]+|[()|?*+]', body.replace("=", "", 1))
        rules[name] = read_choice(marks)
        assert not marks, marks
    return rules


def read_choice(marks):
    choices = [read_row(marks)]
    while marks and marks[0] == "|":
        marks.pop(0)
        choices.append(read_row(marks))
    return ("choice", tuple(choices))


def read_row(marks):
    parts = []
    while marks and marks[0] not in "|)":
        mark = marks.pop(0)
        part = ("mark", mark)
        if mark == "(":
            part = read_choice(marks)
            assert marks.pop(0) == ")"
        if marks and marks[0] in "?*+":
            part = (marks.pop(0), part)
        parts.append(part)
    return ("row", tuple(parts))


RULES = read_grammar()


def opened(stacks):
    """Return the stacks, as pairs of a part and the rest, whose next part is a single token; () is an end."""
    found = set()
    seen = set()
    waiting = list(stacks)
    while waiting:
        stack = waiting.pop()
        if stack in seen:
            continue
        seen.add(stack)
        if stack == ():
            found.add(stack)
            continue
        (kind, part), rest = stack
        if kind == "mark" and part in RULES:
            waiting.append((RULES[part], rest))
        elif kind == "mark":
            found.add(stack)
        elif kind == "choice":
            waiting.extend((choice, rest) for choice in part)
        elif kind == "row":
            for one in reversed(part):
                rest = (one, rest)
            waiting.append(rest)
        else:
            if kind != "+":
                waiting.append(rest)
            waiting.append((part, rest if kind == "?" else (("*", part), rest)))
    return found


def is_number(word):
    return re.fullmatch(r"-?(0|[1-9][0-9]*)(\.[0-9]+)?", word, re.ASCII) and len(re.sub("[-.]", "", word)) <= 18


def is_picture(word):
    row = re.sub(r"(.)\(([1-9][0-9]?)\)", lambda found: found[1] * int(found[2]), word)
    if not 1 <= len(row) <= 80:
        return False
    if re.fullmatch(r"x+|s?9{1,18}|s?(?=[9v]{2,19}$)9*v9+", row):
        return True
    found = re.fullmatch(r"([-+]?)((?:z[z,b0/]*|\*[*,b0/]*|(?=9))[9,b0/]*(?:\.9+)?)([-+]|cr|db|)", row)
    return bool(found) and not (found[1] and found[3]) and sum(row.count(mark) for mark in "z*9") <= 18


def fits(mark, kind, word):
    """Tell if a token may stand at a mark of the grammar."""
    if mark == "STRING" or kind == "string":
        return mark == "STRING" and kind == "string" and 1 <= len(word) <= 80
    if mark == "NAME":
        return re.fullmatch("[a-z]([a-z0-9-]{0,18}[a-z0-9])?", word) and word not in RESERVED
    if mark in ("INDEX", "COUNT"):
        is_integer = re.fullmatch("0|[1-9][0-9]{0,17}", word)
        return is_integer and (mark == "COUNT" or 1 <= int(word) <= 50)
    if mark == "LEVEL":
        return re.fullmatch("[0-4][0-9]", word) and word != "00"
    if mark == "NUMBER":
        return is_number(word)
    if mark == "PICTURE":
        return is_picture(word)
    return mark == '"' + word + '"'


def reason_of(marks, kind, word):
    if kind == "string":
        return "value" if "STRING" in marks else "word"
    if "PICTURE" in marks:
        return "picture"
    if re.fullmatch("[0-9]+", word, re.ASCII) and marks & {"INDEX", "COUNT", "LEVEL"}:
        return "value"
    if re.match("[0-9]|-.", word, re.ASCII) and "NUMBER" in marks:
        return "value"
    return "word"


@functools.lru_cache(maxsize=3000)
def stacks_behind(tokens):
    """Return the opened stacks behind a tuple of tokens that may stand at the beginning of a program, or ()."""
    if not tokens:
        return tuple(opened([(("mark", "PROGRAM"), ())]))
    kind, word = tokens[-1]
    stacks = [stack[1] for stack in stacks_behind(tokens[:-1]) if stack and fits(stack[0][1], kind, word)]
    return tuple(opened(stacks))


def first_fault(tokens):
    """Return the index of the first wrong token of a program and the reason; None for a program that is right."""
    for at, (kind, word) in enumerate(tokens):
        if not stacks_behind(tuple(tokens[:at + 1])):
            marks = {stack[0][1] for stack in stacks_behind(tuple(tokens[:at])) if stack}
            return at, reason_of(marks, kind, word)
    return None if () in stacks_behind(tuple(tokens)) else (len(tokens) - 1, "end")
