"""The examples of the document's interface, as they stand there."""

import unittest

from tests.support import ROOT, Case, names

# In the order of the document: examples use names as earlier ones made them last.
SECTIONS = ["checks", "papers", "numbers", "figures", "days", "words", "promises", "promise_texts", "worths", "afters",
            "machines", "walks", "prices", "books", "spares", "sellers", "robbers", "check_sellers", "bests", "betters",
            "growth", "check_growth", "corners", "corner_prices", "codes", "lags", "evens", "desks"]


def examples(section):
    """The examples of a section: pairs of what is run and what is shown, None for nothing."""
    found = []
    for line in (ROOT / "tests" / "examples" / f"{section}.txt").read_text().splitlines():
        if line.startswith(">>> "):
            found.append([line[4:], None])
        else:
            found[-1][1] = line
    return found


class Examples(Case):
    def test_all_files_are_run(self):
        found = sorted(path.stem for path in (ROOT / "tests" / "examples").glob("*.txt"))
        self.assertEqual(found, sorted(SECTIONS))

    def test_examples(self):
        known = names()
        for section in SECTIONS:
            for run, shown in examples(section):
                with self.subTest(section=section, run=run):
                    self.check(known, run, shown)

    def check(self, known, run, shown):
        if shown is None:
            exec(run, known)
        elif shown.startswith("raises "):
            self.raises(eval(shown[7:], known), lambda: eval(run, known))
        else:
            self.assertEqual(repr(eval(run, known)), shown)


if __name__ == "__main__":
    unittest.main()
