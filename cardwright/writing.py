"""The canonical text of trees (points 409 and 410)."""

from cardwright.decimals import show
from cardwright.pictures import picture_text
from cardwright.tokens import quoted

EXPRESSION_SIGNS = {"plus": "+", "minus": "-", "times": "*"}

# How tight the kinds bind; all others bind tightest.
RANKS = {"plus": 1, "minus": 1, "times": 2, "or": 1, "and": 2}
TIGHTEST = 3


def expression_text(tree):
    kind = tree[0]
    if kind == "negative":
        return "- " + _operand_text(tree[1], TIGHTEST)
    if kind in EXPRESSION_SIGNS:
        rank = RANKS[kind]
        # Operators associate to the left, so only the right operand must bind tighter.
        return f"{_operand_text(tree[1], rank)} {EXPRESSION_SIGNS[kind]} {_operand_text(tree[2], rank + 1)}"
    return _source_text(tree)


def condition_text(tree):
    kind = tree[0]
    if kind == "not":
        return "not " + _inner_condition_text(tree[1], TIGHTEST)
    if kind in ("and", "or"):
        rank = RANKS[kind]
        return f"{_inner_condition_text(tree[1], rank)} {kind} {_inner_condition_text(tree[2], rank + 1)}"
    if kind == "digits":
        return "digits " + _reference_text(tree[1])
    _, operator, one, other = tree
    if kind == "texts":
        return f"text {_source_text(one)} {operator} {_source_text(other)}"
    return f"{expression_text(one)} {operator} {expression_text(other)}"


def entry_row(entry):
    level, name, picture, times, value = entry
    parts = [str(level).zfill(2), name]
    if picture is not None:
        parts.extend(["picture", picture_text(picture)])
    if times > 0:
        parts.extend(["occurs", str(times)])
    if value is not None:
        parts.extend(["value", quoted(value) if isinstance(value, str) else show(value)])
    return " ".join(parts + ["."])


def statement_rows(statement):
    kind = statement[0]
    if kind == "set":
        return _rows_around(_set_head(statement), [("else", statement[4])], " .")
    if kind == "divide":
        return _rows_around(_divide_head(statement), [("else", statement[6])], " .")
    if kind == "if":
        _, condition, then, otherwise = statement
        return _rows_around("if " + condition_text(condition), [("then", then), ("else", otherwise)], " .")
    if kind == "read":
        _, name, at_end, bad = statement
        return _rows_around("read " + name, [("at end", at_end), ("bad", bad)], " end .")
    return [_plain_row(statement)]


def text_of(program):
    name, entries, files, paragraphs = program
    rows = [f"program {name} .", "data ."]
    rows.extend(["  " + entry_row(entry) for entry in entries])
    rows.append("files .")
    rows.extend([f"  {kind} {file} record {record} ." for kind, file, record in files])
    rows.append("procedure .")
    for paragraph, statements in paragraphs:
        rows.append(paragraph + " .")
        rows.extend(_indented(statements))
    return "".join([row + "\n" for row in rows])


def _operand_text(tree, rank):
    """Return the text of an operand that must bind at least as tight as the rank."""
    text = expression_text(tree)
    return text if RANKS.get(tree[0], TIGHTEST) >= rank else f"( {text} )"


def _inner_condition_text(tree, rank):
    text = condition_text(tree)
    return text if RANKS.get(tree[0], TIGHTEST) >= rank else f"[ {text} ]"


def _source_text(source):
    kind, content = source
    if kind == "ref":
        return _reference_text(content)
    return show(content) if kind == "number" else quoted(content)


def _reference_text(reference):
    name, subscripts = reference
    if len(subscripts) == 0:
        return name
    return f"{name} ( {' , '.join([_subscript_text(subscript) for subscript in subscripts])} )"


def _subscript_text(subscript):
    name, number = subscript
    if name == "":
        return str(number)
    if number == 0:
        return name
    return f"{name} + {number}" if number > 0 else f"{name} - {-number}"


def _set_head(statement):
    _, reference, is_rounded, expression, _ = statement
    return f"set {_reference_text(reference)}{_option(is_rounded, 'rounded')} to {expression_text(expression)}"


def _divide_head(statement):
    _, above, below, reference, is_rounded, remainder, _ = statement
    head = f"divide {expression_text(above)} by {expression_text(below)} giving {_reference_text(reference)}"
    head = head + _option(is_rounded, "rounded")
    return head if remainder is None else f"{head} remainder {_reference_text(remainder)}"


def _option(is_there, word):
    return " " + word if is_there else ""


def _plain_row(statement):
    kind = statement[0]
    if kind == "move":
        return f"move {_source_text(statement[1])} to {_reference_text(statement[2])} ."
    if kind == "perform":
        return _perform_row(statement)
    if kind == "show":
        return f"show {' '.join([_source_text(source) for source in statement[1]])} ."
    if kind == "sort":
        _, table, key, is_descending = statement
        return f"sort {table} by {key}{_option(is_descending, 'descending')} ."
    if kind == "clear":
        return f"clear {_reference_text(statement[1])} ."
    return " ".join(list(statement) + ["."])


def _perform_row(statement):
    _, first, last, way = statement
    thru = "" if last == first else " thru " + last
    return f"perform {first}{thru}{_way_text(way)} ."


def _way_text(way):
    """Return the text of a way with a space ahead of it, or the empty string."""
    kind = way[0]
    if kind == "once":
        return ""
    if kind == "times":
        return f" {_source_text(way[1])} times"
    if kind == "until":
        return " until " + condition_text(way[1])
    _, reference, start, pace, condition = way
    from_text = f"from {expression_text(start)} by {expression_text(pace)}"
    return f" varying {_reference_text(reference)} {from_text} until {condition_text(condition)}"


def _rows_around(head, blocks, ending):
    """Return the rows of a statement with the words and inner statements of its blocks."""
    rows = []
    start = head + " "
    for word, statements in blocks:
        if len(statements) > 0:
            rows.append(start + word)
            rows.extend(_indented(statements))
            start = ""
    return rows + ["end ."] if len(rows) > 0 else [head + ending]


def _indented(statements):
    rows = []
    for statement in statements:
        rows.extend(["  " + row for row in statement_rows(statement)])
    return rows
