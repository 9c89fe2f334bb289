"""What several tests need: comparisons, pseudo-random inputs, the program of point 2.16."""

import copy
import signal
import sys
import unittest

EXAMPLE = """\
int x;
bool b;
array t[3];
proc f(int a, bool c) int {
  int y;
  y := a + 1;
  return (if c then y else -a);
}
proc g() bool {
  return true;
}
main 2 {
  skip;
  t[x] := 5;
  b ~ flip(1, 3);
  x ~ uniform(0, 2);
  x ~ pick(x + 1 : 1, 4 : t[0]);
  observe b or x < 3;
  weigh(x, 4);
  assert x != 0;
  if b {
    fail;
  } else {
    repeat 3 {
    }
  }
  while x < 3 max 5 {
    x := x + 1;
  }
  for x from 0 to 2 {
    call f(x, not b) to x;
  }
  call g() to b;
}
return x, b;
"""

A, B, C, X, Y = ("var", "a"), ("var", "b"), ("var", "c"), ("var", "x"), ("var", "y")
T0 = ("item", "t", ("num", 0))
ONE = ("num", 1)

EXAMPLE_PROGRAM = (
    (("int", "x", 0), ("bool", "b", 0), ("array", "t", 3)),
    (
        ("f", "int", (("int", "a"), ("bool", "c")), (("int", "y"),),
         (("set", "y", ("add", A, ONE)),), ("cond", C, Y, ("neg", A))),
        ("g", "bool", (), (), (), ("true",)),
    ),
    2,
    (
        ("skip",),
        ("store", "t", X, ("num", 5)),
        ("flip", "b", ONE, ("num", 3)),
        ("uniform", "x", ("num", 0), ("num", 2)),
        ("pick", "x", ((("add", X, ONE), ONE), (("num", 4), T0))),
        ("observe", ("or", B, ("lt", X, ("num", 3)))),
        ("weigh", X, ("num", 4)),
        ("assert", ("ne", X, ("num", 0))),
        ("if", B, (("fail",),), (("repeat", 3, ()),)),
        ("while", ("lt", X, ("num", 3)), 5, (("set", "x", ("add", X, ONE)),)),
        ("for", "x", 0, 2, (("call", "f", (X, ("not", B)), "x"),)),
        ("call", "g", (), "b"),
    ),
    (X, B),
)

UNARY = ("neg", "not")
LEVELS = {
    "or": 1, "and": 2, "eq": 3, "ne": 3, "lt": 3, "le": 3,
    "add": 4, "sub": 4, "mul": 5, "div": 5, "mod": 5, "neg": 6, "not": 6,
}
SIGNS = {
    "or": "or", "and": "and", "eq": "=", "ne": "!=", "lt": "<", "le": "<=",
    "add": "+", "sub": "-", "mul": "*", "div": "div", "mod": "mod",
}


def kinds_in(value):
    """The same structure with the class of each value in place of the value."""
    if isinstance(value, (list, tuple)):
        return (value.__class__, [kinds_in(item) for item in value])
    if isinstance(value, dict):
        return (dict, {key: kinds_in(item) for key, item in value.items()})
    return value.__class__


class Case(unittest.TestCase):
    """A test case that tells True from 1 and a list from a tuple."""

    maxDiff = 2000

    def same(self, actual, expected, note=None):
        self.assertEqual(actual, expected, note)
        self.assertEqual(kinds_in(actual), kinds_in(expected), note)

    def refuses(self, error, function, *arguments):
        """The call raises exactly this error, and leaves its arguments as they were."""
        before = copy.deepcopy(arguments)
        with self.assertRaises(error) as caught:
            function(*arguments)
        self.assertIs(caught.exception.__class__, error, arguments)
        self.assertEqual(arguments, before)
        return caught.exception

    def refuses_at(self, error, at, function, *arguments):
        found = self.refuses(error, function, *arguments)
        self.same(found.at, at, arguments)

    def pure(self, function, *arguments):
        """The call leaves its arguments alone, and what it returns belongs to the caller."""
        before = copy.deepcopy(arguments)
        result = function(*arguments)
        expected = copy.deepcopy(result)
        self.same(arguments, before)
        if isinstance(result, list):
            self.assertFalse([each for each in arguments if each is result])
            result.append("changed")
            result[0] = "changed"
        if isinstance(result, dict):
            self.assertFalse([each for each in arguments if each is result])
            result.clear()
            result["changed"] = "changed"
        self.same(arguments, before)
        self.same(function(*arguments), expected)
        return expected


class Numbers:
    """Pseudo-random integers that are the same in each run."""

    def __init__(self, seed):
        self.state = seed

    def below(self, limit):
        self.state = (self.state * 6364136223846793005 + 1442695040888963407) % 2 ** 64
        return (self.state >> 33) % limit

    def one_of(self, things):
        return things[self.below(len(things))]


def random_tree(numbers, height):
    """An expression of at most the given height, without regard to kinds."""
    if height <= 1 or numbers.below(8) == 0:
        return numbers.one_of((("num", numbers.below(12)), ("var", numbers.one_of("abxyt")),
                               ("true",), ("false",)))
    tag = numbers.one_of((*SIGNS, *SIGNS, "min", "max", "neg", "not", "neg", "not", "item", "cond"))
    if tag == "item":
        return (tag, numbers.one_of("tu"), random_tree(numbers, height - 1))
    many = 3 if tag == "cond" else 1 if tag in UNARY else 2
    return (tag, *[random_tree(numbers, height - 1) for _ in range(many)])


def random_statement(numbers, depth):
    tree = [random_tree(numbers, 1 + numbers.below(4)) for _ in range(4)]
    name = numbers.one_of("abxy")
    plain = (
        ("skip",), ("fail",), ("set", name, tree[0]), ("store", name, tree[0], tree[1]),
        ("flip", name, tree[0], tree[1]), ("uniform", name, tree[0], tree[1]),
        ("pick", name, ((tree[0], tree[1]), (tree[2], tree[3]))[:1 + numbers.below(2)]),
        ("observe", tree[0]), ("weigh", tree[0], tree[1]), ("assert", tree[0]),
        ("call", numbers.one_of("fg"), tuple(tree[:numbers.below(4)]), name),
    )
    if depth == 0 or numbers.below(2) == 0:
        return numbers.one_of(plain)
    first, second = random_block(numbers, depth - 1), random_block(numbers, depth - 1)
    return numbers.one_of((
        ("if", tree[0], first, second), ("repeat", numbers.below(1000000000), first),
        ("while", tree[0], numbers.below(200), first),
        ("for", name, numbers.below(9), numbers.below(9), first),
    ))


def random_block(numbers, depth):
    return tuple([random_statement(numbers, depth) for _ in range(numbers.below(4))])


def random_program(numbers):
    """A program that the grammar allows, without regard to names and kinds."""
    declarations = tuple([
        numbers.one_of((("int", "a", 0), ("bool", "b", 0), ("array", "t", numbers.below(99))))
        for _ in range(numbers.below(4))])
    variables = (("int", "x"), ("bool", "y"), ("int", "z"))
    procedures = tuple([
        (numbers.one_of("fgh"), numbers.one_of(("int", "bool")), variables[:numbers.below(4)],
         variables[:numbers.below(4)], random_block(numbers, 2), random_tree(numbers, 3))
        for _ in range(numbers.below(3))])
    results = tuple([random_tree(numbers, 3) for _ in range(numbers.below(3))])
    return (declarations, procedures, numbers.below(20), random_block(numbers, 3), results)


def chain(operands, sign="+", operand="1"):
    """A chain of operators, whose tree is as high as it has operands."""
    return f" {sign} ".join([operand] * operands)


def few_calls(function, *arguments, calls=400):
    """Call a function that may nest its calls a few hundred deep, but not deeper."""
    depth = 0
    frame = sys._getframe()
    while frame is not None:
        depth += 1
        frame = frame.f_back
    before = sys.getrecursionlimit()
    sys.setrecursionlimit(depth + calls)
    try:
        return function(*arguments)
    finally:
        sys.setrecursionlimit(before)


def soon(function, *arguments, seconds=20):
    """Call a function that must not take long: one that steps through too much is stopped."""
    def stop(*_):
        raise AssertionError("the call takes too long")

    before = signal.signal(signal.SIGALRM, stop)
    signal.alarm(seconds)
    try:
        return function(*arguments)
    finally:
        signal.alarm(0)
        signal.signal(signal.SIGALRM, before)
