"""The examples of the document, as they stand there."""

import doctest
import unittest

import minusone.data
import minusone.ways

WORLDS = """
    >>> one = (("p", "q"), (("j", "p", "q", (1, 2), (1, 2)),), (("a", "p", True, True), ("b", "q", True, True)), ())
    >>> two = (("p", "q"), (("j", "p", "q", (1, 2), (1, 2)), ("k", "p", "q", (1, 2), (1, 2))), one[2], ())
    >>> legs(one), follows(one, ("j", "back"), ("j", "there")), follows(two, ("k", "back"), ("j", "there")), is_way(two, "a", "a", ("a", (("j", "there"), ("k", "back"))))
    ([('j', 'back'), ('j', 'there')], False, True, True)
    >>> room = (("p",), (), (("a", "p", True, True), ("b", "p", True, False), ("c", "p", True, True)), (("r", ("a", "b"), (1, 2)),))
    >>> legs(room), follows(room, ("a", "b"), ("a", "b")), is_way(room, "a", "a", ("b", ())), is_way(room, "c", "c", ("c", (("a", "b"),)))
    ([('a', 'b')], True, True, True)
"""

HOW_OFTEN = """
    >>> times(one, "a", "b"), times(one, "a", "a"), times(two, "a", "b"), times(room, "c", "a"), way(two, "b", "b"), hearers(room, "a")
    (1, 0, None, None, ('b', (('j', 'back'), ('k', 'there'))), ['a', 'c'])
    >>> is_echo(two, "a", "b", ("a", (("j", "there"),), (("k", "back"), ("j", "there")), ())), is_echo(room, "c", "a", ("c", (), (("a", "b"),), ())), reached(one, "a")
    (True, True, (('j', 'there'),))
"""


class Examples(unittest.TestCase):
    def run_examples(self, text, many):
        names = {**vars(minusone.data), **vars(minusone.ways)}
        test = doctest.DocTestParser().get_doctest(text, names, "examples", None, None)
        told = []
        result = doctest.DocTestRunner(verbose=False).run(test, out=told.append)
        self.assertEqual((result.failed, result.attempted), (0, many), "".join(told))

    def test_section_3(self):
        self.run_examples(WORLDS, 5)

    def test_section_4(self):
        self.run_examples(WORLDS + HOW_OFTEN, 7)


if __name__ == "__main__":
    unittest.main()
