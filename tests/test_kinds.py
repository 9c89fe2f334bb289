"""Point 3.2: the kinds of expressions."""

import unittest

from odds.errors import KindMismatch, UnknownName
from odds.kinds import kind_of
from tests.support import Case, Numbers, few_calls, random_tree

SCOPE = {"i": "int", "b": "bool", "t": "array", "f": "proc"}
INT, BOOL = ("var", "i"), ("var", "b")
OF_KIND = {"int": INT, "bool": BOOL}
# The kinds of the parts that each tag asks for, and the kind that it gives.
RULES = {
    "neg": (("int",), "int"), "not": (("bool",), "bool"), "and": (("bool", "bool"), "bool"),
    "or": (("bool", "bool"), "bool"), "lt": (("int", "int"), "bool"), "le": (("int", "int"), "bool"),
}
for each in ("add", "sub", "mul", "div", "mod", "min", "max"):
    RULES[each] = (("int", "int"), "int")
UNKNOWN = [("var", "z"), ("var", "t"), ("var", "f"), ("item", "z", INT), ("item", "i", INT),
           ("item", "b", INT), ("item", "f", INT)]


def oracle(tree, scope):
    """The kind of an expression in a scope, or the error."""
    if has_unknown(tree, scope):
        return UnknownName
    return kind(tree, scope) or KindMismatch


def has_unknown(tree, scope):
    if tree[0] == "var" and scope.get(tree[1]) not in ("int", "bool"):
        return True
    if tree[0] == "item" and scope.get(tree[1]) != "array":
        return True
    return any([has_unknown(part, scope) for part in tree[1:] if isinstance(part, tuple)])


def kind(tree, scope):
    """The kind of an expression without unknown names, None if there is a mismatch."""
    kinds = tuple([kind(part, scope) for part in tree[1:] if isinstance(part, tuple)])
    if None in kinds:
        return None
    tag = tree[0]
    if tag == "var":
        return scope[tree[1]]
    if tag in ("num", "true", "false"):
        return "int" if tag == "num" else "bool"
    if tag == "item":
        return "int" if kinds == ("int",) else None
    if tag in ("eq", "ne"):
        return "bool" if kinds[0] == kinds[1] else None
    if tag == "cond":
        return kinds[1] if kinds[0] == "bool" and kinds[1] == kinds[2] else None
    return RULES[tag][1] if kinds == RULES[tag][0] else None


def combinations(many):
    rows = [()]
    for _ in range(many):
        rows = [(*row, each) for row in rows for each in ("int", "bool")]
    return rows


class KindOfTest(Case):

    def test_examples(self):
        self.same(self.pure(kind_of, ("eq", ("var", "x"), ("num", 1)), {"x": "int"}), "bool")
        self.refuses(KindMismatch, kind_of, ("add", ("true",), ("num", 1)), {})

    def test_leaves(self):
        for tree, expected in ((("num", 3), "int"), (("true",), "bool"), (("false",), "bool"),
                               (INT, "int"), (BOOL, "bool"), (("item", "t", INT), "int")):
            self.same(self.pure(kind_of, tree, SCOPE), expected)

    def test_each_tag_with_each_kind(self):
        for tag, (wanted, given) in RULES.items():
            for kinds in combinations(len(wanted)):
                tree = (tag, *[OF_KIND[each] for each in kinds])
                if kinds == wanted:
                    self.same(kind_of(tree, SCOPE), given, tree)
                else:
                    self.refuses(KindMismatch, kind_of, tree, SCOPE)

    def test_equality(self):
        for tag in ("eq", "ne"):
            for first, second in combinations(2):
                tree = (tag, OF_KIND[first], OF_KIND[second])
                if first == second:
                    self.same(kind_of(tree, SCOPE), "bool")
                else:
                    self.refuses(KindMismatch, kind_of, tree, SCOPE)

    def test_cond(self):
        for kinds in combinations(3):
            tree = ("cond", *[OF_KIND[each] for each in kinds])
            if kinds in (("bool", "int", "int"), ("bool", "bool", "bool")):
                self.same(kind_of(tree, SCOPE), kinds[1])
            else:
                self.refuses(KindMismatch, kind_of, tree, SCOPE)

    def test_item(self):
        self.same(kind_of(("item", "t", ("add", INT, INT)), SCOPE), "int")
        self.refuses(KindMismatch, kind_of, ("item", "t", BOOL), SCOPE)
        self.refuses(KindMismatch, kind_of, ("item", "t", ("eq", INT, INT)), SCOPE)

    def test_unknown_names(self):
        for tree in UNKNOWN:
            self.refuses(UnknownName, kind_of, tree, SCOPE)
            self.refuses(UnknownName, kind_of, tree, {})

    def test_unknown_names_anywhere(self):
        for bad in UNKNOWN:
            for tree in (("neg", bad), ("not", bad), ("item", "t", bad), ("add", bad, INT),
                         ("add", INT, bad), ("and", BOOL, bad), ("eq", bad, INT), ("min", INT, bad),
                         ("cond", bad, INT, INT), ("cond", BOOL, bad, INT),
                         ("cond", BOOL, INT, bad), ("neg", ("neg", ("item", "t", bad))),
                         ("item", "z", bad), ("or", ("not", ("eq", bad, bad)), BOOL)):
                self.refuses(UnknownName, kind_of, tree, SCOPE)

    def test_unknown_names_before_mismatches(self):
        wrong = ("add", BOOL, INT)
        for bad in UNKNOWN:
            for tree in (("add", wrong, bad), ("add", bad, wrong), ("cond", wrong, bad, INT),
                         ("cond", INT, BOOL, bad), ("eq", ("not", INT), ("neg", bad)),
                         ("neg", ("eq", bad, bad)), ("item", "t", ("and", BOOL, bad)),
                         ("item", "z", BOOL), ("and", wrong, ("and", wrong, bad))):
                self.refuses(UnknownName, kind_of, tree, SCOPE)

    def test_mismatches_anywhere(self):
        for wrong in (("neg", BOOL), ("not", INT), ("lt", BOOL, BOOL), ("eq", INT, BOOL),
                      ("item", "t", BOOL), ("cond", INT, INT, INT), ("cond", BOOL, INT, BOOL)):
            for tree in (("item", "t", wrong), ("neg", wrong), ("not", wrong), ("eq", wrong, wrong),
                         ("eq", INT, wrong), ("ne", BOOL, wrong), ("and", wrong, BOOL),
                         ("cond", wrong, INT, INT), ("cond", BOOL, wrong, INT),
                         ("cond", BOOL, INT, wrong), ("cond", BOOL, wrong, wrong),
                         ("le", ("min", INT, ("neg", wrong)), INT)):
                self.refuses(KindMismatch, kind_of, tree, SCOPE)

    def test_random(self):
        numbers = Numbers(12)
        found = {"int": 0, "bool": 0, UnknownName: 0, KindMismatch: 0}
        for kind_of_t, kind_of_u in (("array", "array"), ("array", "int")):
            scope = {"a": "int", "b": "bool", "x": "int", "y": "int", "t": kind_of_t, "u": kind_of_u}
            for _ in range(3000):
                tree = random_tree(numbers, 1 + numbers.below(5))
                expected = oracle(tree, scope)
                found[expected] += 1
                if expected in ("int", "bool"):
                    self.same(self.pure(kind_of, tree, scope), expected)
                else:
                    self.refuses(expected, kind_of, tree, scope)
        self.assertTrue(all([many > 100 for many in found.values()]), found)

    def test_forty_levels(self):
        tree = INT
        for level in range(39):
            tree = ("add", tree, INT) if level % 2 else ("neg", tree)
        self.same(few_calls(kind_of, tree, SCOPE), "int")
        tree = BOOL
        for _ in range(39):
            tree = ("cond", BOOL, BOOL, tree)
        self.same(few_calls(kind_of, tree, SCOPE), "bool")


if __name__ == "__main__":
    unittest.main()
