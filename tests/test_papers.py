"""hindprice.papers."""

import unittest

from hindprice.papers import Denial, Paper, fixed
from tests.support import STRANGE, Case


class Note(Paper):
    def __init__(self, one, two):
        Paper.__init__(self, "note", one, two)
        self.one, self.two = self.parts


class Other(Paper):
    def __init__(self, one, two):
        Paper.__init__(self, "note", one, two)


class Refusal(Denial):
    def __init__(self, one, two):
        Denial.__init__(self, "note", one, two)


class Fixed(Case):
    def test_lists_become_tuples(self):
        self.same(fixed([1, [2, [3, []]], (4, [5])]), (1, (2, (3, ())), (4, (5,))))
        self.same(fixed(()), ())
        self.same(fixed([]), ())
        self.same(fixed(value=[[0]]), ((0,),))

    def test_other_values_stay(self):
        held = {"a": [1, [2]]}
        for value in STRANGE + [0, -3, 10 ** 99, held]:
            self.assertIs(fixed(value), value)
            self.assertIs(fixed([value])[0], value)
            self.assertIs(fixed(([value], 1))[0][0], value)
        self.assertEqual(held, {"a": [1, [2]]})

    def test_deep_nests(self):
        value, wanted = [], ()
        for _ in range(60):
            value, wanted = [value], (wanted,)
        self.same(fixed(value), wanted)

    def test_what_is_passed_stays(self):
        value = [1, [2, [3]], ([4],)]
        fixed(value)
        self.same(value, [1, [2, [3]], ([4],)])


class Papers(Case):
    def test_word_and_parts(self):
        self.same(Paper("note").parts, ())
        self.same(Paper(word="note").word, "note")
        self.same(Denial("no", [1, [2]], None).parts, ((1, (2,)), None))
        self.same(Denial("no", 1).word, "no")
        note = Note(two=[1, [2]], one={"a": [1]})
        self.same((note.word, note.parts, note.one, note.two), ("note", ({"a": [1]}, (1, (2,))), {"a": [1]}, (1, (2,))))

    def test_truth(self):
        for paper in (Paper("x"), Paper("x", 0), Note(0, 0)):
            self.assertIs(bool(paper), True)
        for denial in (Denial("x"), Denial("x", 1), Refusal(1, 1)):
            self.assertIs(bool(denial), False)
        self.assertTrue(issubclass(Denial, Paper))

    def test_equality_by_class_word_and_parts(self):
        makers = [lambda parts: Paper("note", *parts), lambda parts: Denial("note", *parts),
                  lambda parts: Paper("other", *parts), lambda parts: Note(*parts), lambda parts: Other(*parts),
                  lambda parts: Refusal(*parts)]
        for at, one in enumerate(makers):
            for place, other in enumerate(makers):
                self.assertIs(one((1, 2)) == other([1, 2]), at == place, (at, place))
                self.assertIs(one((1, 2)) != other([1, 2]), at != place, (at, place))
                self.assertIs(one((1, 2)) == other((1, 3)), False)

    def test_equality_of_parts(self):
        self.assertIs(Paper("x", [1, (2,)]) == Paper("x", (1, [2])), True)
        self.assertIs(Paper("x", 1) == Paper("x", True), True)
        self.assertIs(Paper("x", 1) == Paper("x", 1, 1), False)
        self.assertIs(Paper("x", {"a": [1]}) == Paper("x", {"a": (1,)}), False)
        self.assertIs(Paper("x", (1, 2)) == Paper("x", 1, 2), False)

    def test_equality_of_words(self):
        for kind in (Paper, Denial):
            self.assertIs(kind("x", 1) == kind("y", 1), False)
            self.assertIs(kind("x", 1) == kind("x", 1), True)

    def test_a_class_of_the_same_name_is_another_one(self):
        for paper in (Paper("x"), Denial("x")):
            fake = type(paper.__class__.__name__, (), {"word": "x", "parts": ()})()
            self.assertIs(paper == fake, False)

    def test_other_values_are_unequal(self):
        for value in STRANGE + [("x",), ("x", ()), ()]:
            self.assertIs(Paper("x") == value, False)
            self.assertIs(Denial("x") == value, False)
            self.assertIs(Paper("x") != value, True)

    def test_what_is_passed_stays_and_may_change_later(self):
        rows = [1, [2]]
        paper = Paper("x", rows)
        self.same(rows, [1, [2]])
        rows[1].append(3)
        rows.append(4)
        self.same(paper.parts, ((1, (2,)),))


if __name__ == "__main__":
    unittest.main()
