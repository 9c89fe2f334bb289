"""A second reader of the grammar of point 2.11, which tells where a token list goes wrong.

It builds no trees and follows the grammar's text as it stands, by Earley's method: for each
beginning of the token list it keeps all places in all rules that could have been reached.
"""

from tests.test_tokens import KEYWORDS

GRAMMAR = """
program     = { declaration } { procedure } "main" numeral block "return" [ list ] ";"
declaration = ( "int" | "bool" ) name ";" | "array" name "[" numeral "]" ";"
procedure   = "proc" name "(" [ parameter { "," parameter } ] ")" kind
              "{" { kind name ";" } { statement } "return" expression ";" "}"
parameter   = kind name
kind        = "int" | "bool"
block       = "{" { statement } "}"
list        = expression { "," expression }
statement   = "skip" ";"
            | name ":=" expression ";"
            | name "[" expression "]" ":=" expression ";"
            | name "~" "flip" "(" expression "," expression ")" ";"
            | name "~" "uniform" "(" expression "," expression ")" ";"
            | name "~" "pick" "(" choice { "," choice } ")" ";"
            | "observe" expression ";"
            | "weigh" "(" expression "," expression ")" ";"
            | "assert" expression ";"
            | "fail" ";"
            | "if" expression block [ "else" block ]
            | "repeat" numeral block
            | "while" expression "max" numeral block
            | "for" name "from" numeral "to" numeral block
            | "call" name "(" [ list ] ")" "to" name ";"
choice      = expression ":" expression
expression  = conjunction { "or" conjunction }
conjunction = comparison { "and" comparison }
comparison  = sum [ ( "=" | "!=" | "<" | "<=" ) sum ]
sum         = term { ( "+" | "-" ) term }
term        = factor { ( "*" | "div" | "mod" ) factor }
factor      = [ "-" | "not" ] atom
atom        = numeral | "true" | "false" | name | name "[" expression "]"
            | "(" expression ")"
            | "min" "(" expression "," expression ")"
            | "max" "(" expression "," expression ")"
            | "(" "if" expression "then" expression "else" expression ")"
"""


def read_grammar():
    """The rules as a dict from a symbol to its choices, each a tuple of symbols."""
    lines = []
    for line in GRAMMAR.strip().split("\n"):
        if line[0] == " ":
            lines[-1] += line
        else:
            lines.append(line)
    rules = {}
    for line in lines:
        head, words = line.split()[0], line.split()[2:]
        rules[head] = read_choices(words, rules)
        assert not words
    return rules


def read_choices(words, rules):
    choices, row = [], []
    while words and words[0] not in ("}", "]", ")"):
        word = words.pop(0)
        if word == "|":
            choices.append(tuple(row))
            row = []
        elif word in ("{", "[", "("):
            row.append(read_group(word, words, rules))
        else:
            row.append(word)
    return [*choices, tuple(row)]


def read_group(bracket, words, rules):
    inner = read_choices(words, rules)
    words.pop(0)
    name = f"group {len(rules)} {len(words)}"
    rules[name] = list(inner)
    if bracket in ("{", "["):
        rules[name].append(())
    if bracket == "{":
        rules[name] = [(*choice, name) if choice else () for choice in rules[name]]
    return name


RULES = read_grammar()


def terminal(token):
    """What the grammar calls a token."""
    if token[0].isdigit():
        return "numeral"
    if token[0].isalpha() and token not in KEYWORDS:
        return "name"
    return f'"{token}"'


def closure(columns, items):
    """All places that are reached from the given ones without a token."""
    here = dict.fromkeys(items)
    columns.append(here)
    waiting = list(here)
    finished = {}
    while waiting:
        head, row, dot, origin = waiting.pop()
        if dot == len(row):
            if origin == len(columns) - 1:
                finished[head] = True
            found = [(h, r, d + 1, o) for h, r, d, o in columns[origin] if r[d:d + 1] == (head,)]
        elif row[dot] in RULES:
            found = [(row[dot], choice, 0, len(columns) - 1) for choice in RULES[row[dot]]]
            if row[dot] in finished:
                found.append((head, row, dot + 1, origin))
        else:
            found = []
        for item in found:
            if item not in here:
                here[item] = None
                waiting.append(item)


class Reader:
    """Reads tokens one by one, as long as a text that follows the grammar can begin so."""

    def __init__(self, start):
        self.columns = []
        closure(self.columns, [("text", (start,), 0, 0)])

    def expected(self):
        """What may follow: the terminals, and the empty text if the list may end here."""
        found = set()
        for head, row, dot, _ in self.columns[-1]:
            if dot < len(row) and row[dot] not in RULES:
                found.add(row[dot])
            if head == "text" and dot == 1:
                found.add("")
        return found

    def read(self, token):
        """Move past a token if it may follow, and tell whether it may."""
        word = terminal(token)
        items = [(h, r, d + 1, o) for h, r, d, o in self.columns[-1] if r[d:d + 1] == (word,)]
        if items:
            closure(self.columns, items)
        return bool(items)


def place_of_fault(start, tokens):
    """Where a token list goes wrong, or None if it follows the grammar."""
    reader = Reader(start)
    for at, token in enumerate(tokens):
        if not reader.read(token):
            return at
    return None if "" in reader.expected() else len(tokens)
