"""Turns texts about in another way than the program does: by cutting rows of tokens apart.

It is slow, and asks for texts without a fault.
"""

import re

TOKEN = re.compile(r"#[^\n]*|[\t\n\r ]+|([A-Za-z][A-Za-z0-9_]*|[0-9]+|<=>|[-+^]=|<=|!=|[][{}(),;=<+*/%&|^!-])")
LEVELS = [["|"], ["^"], ["&"], ["=", "!=", "<=", "<"], ["+", "-"], ["*", "/", "%"]]
CHANGES = {"+=": "-=", "-=": "+=", "^=": "^=", "<=>": "<=>"}


def tokens_of(text):
    found = []
    place = 0
    while place < len(text):
        match = TOKEN.match(text, place)
        place = match.end()
        if match.group(1):
            found.append(match.group(1))
    return found


def spaced(tokens):
    return "".join(token + ("\n" if token in ("{", "}", ";") else " ") for token in tokens)


def depths(tokens, opening, closing):
    """Of each token how many that open stand round it; those that open and close stand outside."""
    depth = 0
    found = []
    for token in tokens:
        depth -= token in closing
        found.append(depth)
        depth += token in opening
    return found


def grouping(tokens):
    """How an expression is grouped, by parting it at the last of the operators that bind least."""
    inside = depths(tokens, "([", ")]")
    for level in LEVELS:
        for place in reversed(range(len(tokens))):
            if inside[place] == 0 and tokens[place] in level:
                return (grouping(tokens[:place]), tokens[place], grouping(tokens[place + 1:]))
    if tokens[0] == "!":
        return ("!", grouping(tokens[1:]))
    if tokens[0] == "(":
        return grouping(tokens[1:-1])
    return (tokens[0], grouping(tokens[2:-1])) if len(tokens) > 1 else tokens[0]


def shortened(tokens):
    """An expression without each pair of ( ) that can be left out with nothing grouped otherwise."""
    wanted = grouping(tokens)
    place = 0
    while place < len(tokens):
        if tokens[place] == "(":
            inside = depths(tokens, "(", ")")
            end = tokens.index(")", place)
            while inside[end] != inside[place]:
                end = tokens.index(")", end + 1)
            without = tokens[:place] + tokens[place + 1:end] + tokens[end + 1:]
            if grouping(without) == wanted:
                tokens = without
                continue
        place += 1
    return tokens


def cut(tokens, *marks):
    """The tokens between those marks that stand within no block, in their order."""
    inside = depths(tokens, "{", "}")
    found = []
    start = 0
    for mark in marks:
        place = next(k for k in range(start, len(tokens)) if inside[k] == 0 and tokens[k] == mark)
        found.append(tokens[start:place])
        start = place + 1
    return found + [tokens[start:]]


def told_statement(tokens, is_turned):
    """A statement without its ;, turned about if that is asked for, else only told."""
    first = tokens[0]
    if first in ("skip", "call", "uncall"):
        return tokens
    if first not in ("if", "from", "local"):
        sign = next(token for token in tokens if token in CHANGES)
        left, right = cut(tokens, sign)
        return shortened(left) + [CHANGES[sign] if is_turned else sign] + shortened(right)
    ahead = []
    if first == "if":
        before, second = cut(tokens[1:], "else")
        second, behind = cut(second, "fi")
        words = ["else", "fi"]
    elif first == "from":
        before, one, second, behind = cut(tokens[1:], "do", "loop", "until")
        before = before + one
        words = ["loop", "until"]
    else:
        ahead = tokens[1:3]
        before, behind = cut(tokens[3:], "delocal")
        second, words = [], ["delocal"]
    start = before.index("{")
    before, one = shortened(before[:start]), told_block(before[start:], is_turned)
    behind = shortened(behind)
    if is_turned:
        before, behind = behind, before
    told = [first] + ahead + before + (["do"] if first == "from" else []) + one
    if second:
        told += [words[0]] + told_block(second, is_turned)
    return told + [words[-1]] + behind


def told_block(tokens, is_turned):
    body = tokens[1:-1]
    inside = depths(body, "{", "}")
    statements = [[]]
    for token, depth in zip(body, inside):
        if token == ";" and depth == 0:
            statements.append([])
        else:
            statements[-1].append(token)
    statements = statements[:-1]
    if is_turned:
        statements.reverse()
    told = ["{"]
    for statement in statements:
        told += told_statement(statement, is_turned) + [";"]
    return told + ["}"]


def told(text, is_turned):
    tokens = tokens_of(text)
    inside = depths(tokens, "{", "}")
    found = []
    place = 0
    while place < len(tokens):
        if tokens[place] == "{":
            end = next(k for k in range(place + 1, len(tokens)) if tokens[k] == "}" and inside[k] == 0)
            found += told_block(tokens[place:end + 1], is_turned)
            place = end + 1
        else:
            found.append(tokens[place])
            place += 1
    return spaced(found)


def told_about(text):
    """The text turned about."""
    return told(text, True)


def told_so(text):
    """The text itself, told as turn tells texts."""
    return told(text, False)
