"""The grammar of point 3.1 as the document writes it, and which token of a text breaks it first.

This does not know how the program parses: it keeps all rows of symbols that may follow.
"""

import re

GRAMMAR = '''
program   = "program" NAME [ "in" NAME { "," NAME } ";" ] [ "out" NAME { "," NAME } ";" ] { process } "main" block
process   = "process" NAME "(" [ param { "," param } ] ")" block
param     = ( "word" | "channel" ) NAME
block     = "{" { decl } { statement } "}"
decl      = "word" NAME ";" | "array" NAME "[" NUM "]" ";" | "channel" NAME [ "[" NUM "]" ] ";"
statement = block | "skip" ";" | "stop" ";" | place "=" expr ";" | "give" expr "to" place ";"
          | "take" place "into" place ";" | "together" "{" { statement } "}"
          | "together" "for" NAME "from" NUM "to" NUM block | "either" "{" { row } "}"
          | "if" expr block [ "else" block ] | "repeat" NUM "while" expr block
          | "call" NAME "(" [ expr { "," expr } ] ")" ";"
row       = [ "when" expr ] "take" place "into" place "then" block
place     = NAME [ "[" expr "]" ]
expr      = both { "or" both }
both      = test { "and" test }
test      = sum [ ( "==" | "!=" | "<" | "<=" ) sum ]
sum       = product { ( "+" | "-" ) product }
product   = factor { ( "*" | "/" | "mod" ) factor }
factor    = ( "-" | "not" ) factor | NUM | place | "(" expr ")"
'''

CLOSING = {"{": "}", "[": "]", "(": ")"}


def read_rules():
    rows = []
    for line in GRAMMAR.strip().split("\n"):
        if line.startswith(" "):
            rows[-1] += line
        else:
            rows.append(line)
    rules = {}
    for row in rows:
        name, right = row.split("=", 1)
        rules[name.strip()] = read_choice(re.findall(r'"[^"]+"|\w+|[{}\[\]()|]', right), [0])
    return rules


def read_choice(parts, at):
    """Reads parts up to a closing one: ("choice", sequences)."""
    sequences = [[]]
    while at[0] < len(parts) and parts[at[0]] not in CLOSING.values():
        part = parts[at[0]]
        at[0] += 1
        if part == "|":
            sequences.append([])
        elif part in CLOSING:
            inner = read_choice(parts, at)
            assert parts[at[0]] == CLOSING[part]
            at[0] += 1
            sequences[-1].append({"{": ("many", inner), "[": ("maybe", inner), "(": inner}[part])
        elif part.startswith('"'):
            sequences[-1].append(("sign", part[1:-1]))
        elif part.isupper():
            sequences[-1].append(("kind", {"NAME": "name", "NUM": "number"}[part]))
        else:
            sequences[-1].append(("rule", part))
    return ("choice", tuple(tuple(sequence) for sequence in sequences))


RULES = read_rules()
START = (("rule", "program"), ("kind", "end"))


def opened(stack, found):
    """Adds to a set all rows of symbols that begin with a terminal and stand for this one."""
    if not stack:
        return
    (kind, what), rest = stack[0], stack[1:]
    if kind in ("sign", "kind"):
        found.add(stack)
    elif kind == "rule":
        opened((RULES[what],) + rest, found)
    elif kind == "choice":
        for sequence in what:
            opened(sequence + rest, found)
    else:
        opened(rest, found)
        opened((what,) + ((stack[0],) if kind == "many" else ()) + rest, found)


def start():
    found = set()
    opened(START, found)
    return found


def after(stacks, token):
    """What may follow behind one more token: an empty set if the token breaks the grammar."""
    found = set()
    done = False
    for stack in stacks:
        kind, what = stack[0]
        if token[0] == what if kind == "kind" else (token[0] in ("word", "sign") and token[1] == what):
            opened(stack[1:], found)
            done = done or len(stack) == 1
    return found if not done else {()}


def first_wrong(tokens, stacks=None, begin=0):
    """The index of the first token that breaks the grammar, or None."""
    stacks = start() if stacks is None else stacks
    for index in range(begin, len(tokens)):
        stacks = after(stacks, tokens[index])
        if not stacks:
            return index
    return None


def prefixes(tokens):
    """What may follow behind the first k tokens, for each k."""
    found = [start()]
    for token in tokens:
        found.append(after(found[-1], token))
    return found
