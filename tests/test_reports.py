"""Points 10.6 and 10.7: reports."""

import unittest
from fractions import Fraction

from odds.errors import InvalidReport
from odds.reports import read_report, write_report
from tests.reference import all_paths, answer_of_paths, run_flat_program
from tests.samples import flat_programs
from tests.support import Case, Numbers

NONE, ONE = (0, 1), (1, 1)

REPORTS = {
    "(1, true): 1/2\nrejected: 1/2\nexhausted: 0\nfaulted: 0\n":
        ((((1, True), (1, 2)),), (1, 2), NONE, NONE),
    "rejected: 0\nexhausted: 1\nfaulted: 0\n": ((), NONE, ONE, NONE),
    "(): 1\nrejected: 0\nexhausted: 0\nfaulted: 0\n": ((((), ONE),), NONE, NONE, NONE),
    "(): 1/6\nrejected: 1/6\nexhausted: 1/3\nfaulted: 1/3\n":
        ((((), (1, 6)),), (1, 6), (1, 3), (1, 3)),
    "(-999999999): 1/4\n(-1): 1/4\n(0): 1/4\n(12): 1/4\nrejected: 0\nexhausted: 0\nfaulted: 0\n":
        (tuple([((n,), (1, 4)) for n in (-999999999, -1, 0, 12)]), NONE, NONE, NONE),
    "(false): 1/3\n(true): 1/3\nrejected: 0\nexhausted: 0\nfaulted: 1/3\n":
        ((((False,), (1, 3)), ((True,), (1, 3))), NONE, NONE, (1, 3)),
    "(false, -2, 0): 1/8\n(false, -2, 1): 1/8\n(false, -1, 0): 1/8\n(true, -7, 5): 1/8\n"
    "rejected: 1/2\nexhausted: 0\nfaulted: 0\n":
        (tuple([(key, (1, 8)) for key in ((False, -2, 0), (False, -2, 1), (False, -1, 0),
                                          (True, -7, 5))]), (1, 2), NONE, NONE),
}

LOST = "rejected: 0\nexhausted: 0\nfaulted: 0\n"
HALF = "rejected: 1/2\nexhausted: 0\nfaulted: 0\n"

INVALID = {
    "no report": ("", "\n", "\n\n\n", "\n\n\n\n", "report", LOST, "(1): 1\n"),
    "lines that are left out": (
        "rejected: 1/2\nexhausted: 1/2\n", "exhausted: 1\nfaulted: 0\n",
        "(1): 1\nexhausted: 0\nfaulted: 0\n", "(1): 1\nrejected: 0\nfaulted: 0\n",
        "(1): 1\nrejected: 0\nexhausted: 0\n", "(1): 1/2\n" + LOST),
    "lines that are doubled": (
        "(1): 1/2\n(1): 1/2\n" + LOST, "(1): 1/4\n(1): 1/4\n" + HALF, "(): 1/2\n(): 1/2\n" + LOST,
        "(1): 1\nrejected: 0\nrejected: 0\nexhausted: 0\nfaulted: 0\n",
        "(1): 1\nrejected: 0\nexhausted: 0\nexhausted: 0\nfaulted: 0\n",
        "(1): 1\n" + LOST + "faulted: 0\n", "(1): 1\n" + LOST + LOST),
    "lines that are exchanged": (
        "(2): 1/2\n(1): 1/2\n" + LOST, "(true): 1/2\n(false): 1/2\n" + LOST,
        "(0): 1/2\n(-1): 1/2\n" + LOST, "(1, 0): 1/2\n(0, 1): 1/2\n" + LOST,
        "(1): 1/4\n(3): 1/4\n(2): 1/2\n" + LOST,
        "exhausted: 0\nrejected: 0\nfaulted: 1\n", "rejected: 0\nfaulted: 1\nexhausted: 0\n",
        LOST + "(1): 1\n", "rejected: 0\n(1): 1\nexhausted: 0\nfaulted: 0\n"),
    "masses not in lowest terms": (
        "(1): 2/4\n" + HALF, "(1): 1/1\n" + LOST, "(1): 1/2\nrejected: 2/4\nexhausted: 0\nfaulted: 0\n",
        "(1): 1\nrejected: 0/1\nexhausted: 0\nfaulted: 0\n",
        "(1): 1\nrejected: 0\nexhausted: 0/5\nfaulted: 0\n"),
    "masses of the table that are zero or negative": (
        "(1): 0\n(2): 1\n" + LOST, "(1): -1\n(2): 2\n" + LOST, "(1): -1/2\n(2): 1\n" + HALF,
        "(1): 0\nrejected: 1\nexhausted: 0\nfaulted: 0\n"),
    "other masses that are negative": (
        "(1): 3/2\nrejected: -1/2\nexhausted: 0\nfaulted: 0\n",
        "(1): 3/2\nrejected: 0\nexhausted: -1/2\nfaulted: 0\n",
        "(1): 3/2\nrejected: 0\nexhausted: 0\nfaulted: -1/2\n",
        "rejected: -1\nexhausted: 1\nfaulted: 1\n", "(1): 1\nrejected: -0\nexhausted: 0\nfaulted: 0\n"),
    "masses that do not add up to one": (
        "(1): 1/3\n" + HALF, "(1): 1\n" + HALF, "(1): 1/2\n" + LOST, "(1): 2\n" + LOST,
        "rejected: 1/2\nexhausted: 1/4\nfaulted: 0\n", "(1): 1/2\n(2): 1/3\n" + LOST),
    "masses that are no ratios": (
        "(1): \n" + LOST, "(1): one\n" + LOST, "(1): 1.0\n" + LOST, "(1): 1/\n" + LOST,
        "(1): 1/0\n" + LOST, "(1): +1\n" + LOST, "(1): 01\n" + LOST, "(1): 1/2/1\n" + HALF,
        "(1): 1/02\n" + HALF, "(1): 1/-2\n" + HALF, "(1): 1\nrejected: \nexhausted: 0\nfaulted: 0\n",
        "(1): 1\nrejected: 00\nexhausted: 0\nfaulted: 0\n"),
    "keys of unlike length": (
        "(1): 1/2\n(1, 2): 1/2\n" + LOST, "(1, 2): 1/2\n(2): 1/2\n" + LOST,
        "(): 1/2\n(1): 1/2\n" + LOST, "(1, true): 1/2\n(2, true, 1): 1/2\n" + LOST),
    "keys of unlike kinds": (
        "(false): 1/2\n(1): 1/2\n" + LOST, "(0): 1/2\n(true): 1/2\n" + LOST,
        "(1, 2): 1/2\n(2, true): 1/2\n" + LOST, "(0): 1/4\n(1): 1/4\n(true): 1/2\n" + LOST,
        "(0, 1): 1/4\n(false, 2): 1/4\n" + HALF, "(1, false): 1/4\n(1, 2): 1/4\n" + HALF),
    "blanks": (
        " (1): 1\n" + LOST, "(1) : 1\n" + LOST, "(1):  1\n" + LOST, "(1):1\n" + LOST,
        "(1): 1 \n" + LOST, "( 1): 1\n" + LOST, "(1 ): 1\n" + LOST, "(1,2): 1\n" + LOST,
        "(1,  2): 1\n" + LOST, "(1 , 2): 1\n" + LOST, "( ): 1\n" + LOST, "(1): 1 /2\n" + HALF,
        "(1): 1\nrejected:0\nexhausted: 0\nfaulted: 0\n",
        "(1): 1\nrejected:  0\nexhausted: 0\nfaulted: 0\n",
        "(1): 1\n rejected: 0\nexhausted: 0\nfaulted: 0\n",
        "(1): 1\nrejected : 0\nexhausted: 0\nfaulted: 0\n",
        "(1): 1\nrejected: 0\nexhausted: 0\nfaulted: 0 \n"),
    "signs and zeros in keys": (
        "(+1): 1\n" + LOST, "(-0): 1\n" + LOST, "(01): 1\n" + LOST, "(-01): 1\n" + LOST,
        "(00): 1\n" + LOST, "(--1): 1\n" + LOST, "(1_0): 1\n" + LOST, "(1.0): 1\n" + LOST),
    "keys of another form": (
        "1: 1\n" + LOST, "(1: 1\n" + LOST, "1): 1\n" + LOST, "(1)): 1\n" + LOST,
        "((1): 1\n" + LOST, "((1)): 1\n" + LOST, "(1,): 1\n" + LOST, "(1, ): 1\n" + LOST,
        "(, 1): 1\n" + LOST, "(,): 1\n" + LOST, "[1]: 1\n" + LOST, "(True): 1\n" + LOST,
        "(TRUE): 1\n" + LOST, "(none): 1\n" + LOST, "(x): 1\n" + LOST, "(1; 2): 1\n" + LOST,
        "(1) 1\n" + LOST, "(1)= 1\n" + LOST, ": 1\n" + LOST, "): 1\n" + LOST, "(true false): 1\n" + LOST),
    "line feeds": (
        "(1): 1\nrejected: 0\nexhausted: 0\nfaulted: 0",
        "(1): 1\n" + LOST + "\n", "\n(1): 1\n" + LOST, "(1): 1\n\n" + LOST,
        "(1): 1\nrejected: 0\n\nexhausted: 0\nfaulted: 0\n",
        "(1): 1 rejected: 0\nexhausted: 0\nfaulted: 0\n", "(1): 1\r\n" + LOST,
        "rejected: 1\nexhausted: 0\nfaulted: 0"),
    "wrong words": (
        "(1): 1\nRejected: 0\nexhausted: 0\nfaulted: 0\n",
        "(1): 1\nrejected: 0\nexhaust: 0\nfaulted: 0\n",
        "(1): 1\nrejected: 0\nexhausted: 0\nfault: 0\n",
        "(1): 1\n: 0\nexhausted: 0\nfaulted: 0\n", "(1): 1\n0\n0\n0\n",
        "(1): 1\nrejected 0\nexhausted 0\nfaulted 0\n",
        "(1): 1\nrejected: 0: 0\nexhausted: 0\nfaulted: 0\n",
        "finished: 1\nrejected: 0\nexhausted: 0\nfaulted: 0\n"),
}


class ReportsTest(Case):

    def test_reports(self):
        for text, answer in REPORTS.items():
            self.same(self.pure(write_report, answer), text)
            self.same(self.pure(read_report, text), answer)

    def test_example(self):
        self.same(write_report(((((1, True), (1, 2)),), (1, 2), NONE, NONE)),
                  "(1, true): 1/2\nrejected: 1/2\nexhausted: 0\nfaulted: 0\n")

    def test_long_numbers(self):
        big = 10 ** 6000
        ones = "1" + "0" * 6000
        answer = ((((-big, True), (1, big)),), (big - 1, big), NONE, NONE)
        text = f"(-{ones}, true): 1/{ones}\nrejected: {'9' * 6000}/{ones}\n"
        text += "exhausted: 0\nfaulted: 0\n"
        self.same(write_report(answer) == text, True)
        self.same(read_report(text) == answer, True)

    def test_invalid(self):
        for reason, texts in INVALID.items():
            for text in texts:
                self.assertNotIn(text, REPORTS)
                with self.subTest(reason=reason, text=text):
                    self.refuses(InvalidReport, read_report, text)

    def test_answers_of_programs(self):
        for flat, _ in flat_programs(45, 500, 8):
            found = all_paths(run_flat_program, flat, 60)
            if found is not None:
                answer = answer_of_paths(found)
                self.same(read_report(write_report(answer)), answer)

    def test_changed_texts(self):
        """A text that is read is the report of what is read, and of nothing else."""
        numbers = Numbers(84)
        texts = list(REPORTS)
        spots = [0, 0]
        for _ in range(6000):
            text = numbers.one_of(texts)
            at = numbers.below(len(text) + 1)
            piece = numbers.one_of(("", "", "0", "1", "2", "-", "/", ", ", "(", ")", " ", "\n",
                                    "true", ": ", "/2"))
            changed = text[:at] + piece + text[at + numbers.below(3):]
            try:
                answer = read_report(changed)
            except InvalidReport:
                spots[0] += 1
                continue
            spots[1] += 1
            self.same(write_report(answer), changed)
            table, *lost = answer
            keys = [key for key, _ in table]
            self.assertTrue(all([a < b for a, b in zip(keys, keys[1:])]), changed)
            self.assertEqual(len({tuple([item.__class__ for item in key]) for key in keys} | {0}),
                             2 if keys else 1)
            self.assertTrue(all([Fraction(*mass) > 0 for _, mass in table]), changed)
            self.assertTrue(all([Fraction(*mass) >= 0 for mass in lost]), changed)
            self.assertEqual(sum([Fraction(*mass) for mass in [m for _, m in table] + lost]), 1)
        self.assertTrue(min(spots) > 100, spots)


if __name__ == "__main__":
    unittest.main()
