import unittest

from spindleway.papers import Denial, Paper, fixed


class OtherPaper(Paper):
    pass


class OtherDenial(Denial):
    pass


class PapersTest(unittest.TestCase):
    def test_examples(self):
        note = Paper("note", [1, (2, [3])])
        self.assertEqual(
            [note.parts, bool(note), bool(Denial("no")), note == Denial("note", [1, (2, [3])]),
             fixed([[], {"a": [1]}])],
            [((1, (2, (3,))),), True, False, False, ((), {"a": [1]})],
        )

    def test_word_and_parts(self):
        for paper in (Paper, Denial):
            self.assertEqual((paper("one").word, paper("one").parts), ("one", ()))
            self.assertEqual((paper("two", 1, [2]).word, paper("two", 1, [2]).parts), ("two", (1, (2,))))
            self.assertEqual(paper(word="three").word, "three")
            self.assertEqual(paper("", None, True, "x", [[[]]]).parts, (None, True, "x", (((),),)))
            self.assertEqual(set(vars(paper("one", 2))), {"word", "parts"})

    def test_bases(self):
        self.assertTrue(issubclass(Denial, Paper))
        self.assertFalse(issubclass(Paper, Denial))
        for paper in (Paper, Denial):
            self.assertIn("__eq__", vars(paper))

    def test_truth(self):
        for parts in ((), (0,), (False,), (None, []), (True,)):
            self.assertIs(bool(Paper("yes", *parts)), True)
            self.assertIs(bool(Denial("no", *parts)), False)
        self.assertIs(bool(OtherPaper("")), True)
        self.assertIs(bool(OtherDenial("yes", 1)), False)

    def test_equal(self):
        for paper in (Paper, Denial):
            self.assertIs(paper("a", 1, [2]) == paper("a", 1, (2,)), True)
            self.assertIs(paper("a", 1, [2]) != paper("a", 1, (2,)), False)
            self.assertIs(paper("a") == paper("a"), True)
            # As Python compares the parts.
            self.assertIs(paper("a", 1, 0) == paper("a", True, 0.0), True)

    def test_unequal(self):
        for paper in (Paper, Denial):
            for one, other in (
                (paper("a"), paper("b")), (paper("a", 1), paper("a", 2)), (paper("a", 1), paper("a")),
                (paper("a", 1, 2), paper("a", 2, 1)), (paper("a", [1]), paper("a", 1)), (paper("a", ()), paper("a")),
                (paper("a", (1, (2,))), paper("a", (1, (3,)))),
            ):
                self.assertIs(one == other, False)
                self.assertIs(other == one, False)
                self.assertIs(one != other, True)

    def test_other_classes(self):
        four = [Paper("a", 1), Denial("a", 1), OtherPaper("a", 1), OtherDenial("a", 1)]
        for one in four:
            for other in four:
                self.assertIs(one == other, one is other)
            for other in (None, "a", ("a", 1), 1, (1,), object(), Paper):
                self.assertIs(one == other, False)
                self.assertIs(other == one, False)

    def test_what_is_changed_behind_the_call(self):
        deep = [3]
        parts = [1, (2, deep)]
        for paper in (Paper, Denial):
            made = paper("note", parts)
            parts[0] = 9
            deep.append(4)
            self.assertEqual(made.parts, ((1, (2, (3,))),))
            parts[0] = 1
            deep.pop()

    def test_fixed(self):
        for value, told in (
            ([], ()), ((), ()), ([1], (1,)), ((1, [2, [3, ([],)]]), (1, (2, (3, ((),))))), ([[[[]]]], ((((),),),)),
            ([None, True, "[1]", b"[1]"], (None, True, "[1]", b"[1]")),
        ):
            self.assertEqual(fixed(value), told)
        self.assertIs(fixed([True])[0], True)
        self.assertEqual(fixed(value=[1]), (1,))

    def test_fixed_keeps_other_values(self):
        for value in (None, True, 0, 10 ** 5000, "ab", {"a": [1]}, {1, 2}, object(), Paper("a", [1]), range(3), int):
            self.assertIs(fixed(value), value)
            self.assertIs(fixed([[value]])[0][0], value)

    def test_fixed_as_deep_as_may_be(self):
        value, told = [], ()
        for _ in range(29):
            value, told = [value], (told,)
        self.assertEqual(fixed(value), told)
