"""The examples of the document, as they stand there."""

import doctest
import unittest

import minusone.cuts
import minusone.data
import minusone.desk
import minusone.loud
import minusone.mutes
import minusone.rings
import minusone.texts
import minusone.ways

WORLDS = """
    >>> one = (("p", "q"), (("j", "p", "q", (1, 2), (1, 2)),), (("a", "p", True, True), ("b", "q", True, True)), ())
    >>> two = (("p", "q"), (("j", "p", "q", (1, 2), (1, 2)), ("k", "p", "q", (1, 2), (1, 2))), one[2], ())
    >>> legs(one), follows(one, ("j", "back"), ("j", "there")), follows(two, ("k", "back"), ("j", "there")), is_way(two, "a", "a", ("a", (("j", "there"), ("k", "back"))))
    ([('j', 'back'), ('j', 'there')], False, True, True)
    >>> room = (("p",), (), (("a", "p", True, True), ("b", "p", True, False), ("c", "p", True, True)), (("r", ("a", "b"), (1, 2)),))
    >>> legs(room), follows(room, ("a", "b"), ("a", "b")), is_way(room, "a", "a", ("b", ())), is_way(room, "c", "c", ("c", (("a", "b"),)))
    ([('a', 'b')], True, True, True)
"""

HOW_OFTEN = """
    >>> times(one, "a", "b"), times(one, "a", "a"), times(two, "a", "b"), times(room, "c", "a"), way(two, "b", "b"), hearers(room, "a")
    (1, 0, None, None, ('b', (('j', 'back'), ('k', 'there'))), ['a', 'c'])
    >>> is_echo(two, "a", "b", ("a", (("j", "there"),), (("k", "back"), ("j", "there")), ())), is_echo(room, "c", "a", ("c", (), (("a", "b"),), ())), reached(one, "a")
    (True, True, (('j', 'there'),))
"""

GOES_ROUND = """
    >>> least_ring(one), least_ring(two), least_ring(room), spare_joins(two)
    (None, (('j', 'back'), ('k', 'there')), (('a', 'b'),), ('j',))
"""

HOW_LOUD = """
    >>> weights(two), loud(two, "a", "b"), loud(two, "a", "a"), loud(room, "c", "a"), loud(one, "a", "a")
    (((('j', 'back'), (2, 1)), (('j', 'there'), (2, 1)), (('k', 'back'), (2, 1)), (('k', 'there'), (2, 1))), (4, 3), (2, 3), (2, 1), (0, 1))
    >>> three = (("p", "q"), two[1] + (("l", "p", "q", (1, 2), (1, 2)),), (("a", "p", True, True),), ())
    >>> howl(three), weights(three), loud(three, "a", "a"), is_calm(two, ((("j", "back"), (1, 1)), (("j", "there"), (1, 1)), (("k", "back"), (1, 1)), (("k", "there"), (1, 1))))
    (((('j', 'back'), ('j', 'there'), ('k', 'back'), ('k', 'there'), ('l', 'back')), ('l', 'there')), None, None, True)
"""

SHUT_OFF = """
    >>> fewest_shut(two, "a", "b"), is_apart(two, "a", "b", (("a", (("j", "there"),)), ("a", (("k", "there"),)))), fewest_shut(room, "c", "a"), overheard(room, "a"), guard(room, "a")
    ((('j', 'there'), ('k', 'there')), True, None, ['c'], (('a', 'b'),))
"""

MUTES = """
    >>> fewest_mutes(two, (("a", "b"), ("b", "a"))), fewest_mutes(two, ()), fewest_mutes(room, (("a", "c"), ("c", "a"))), fewest_calm(two, ()), fewest_calm(three, ())
    ((('j', 'back'), ('j', 'there')), (('j', 'back'), ('j', 'there')), (('a', 'b'),), (), (('j', 'back'),))
    >>> late = (("k", "back"), ("k", "there"))
    >>> order_for(two, late, legs(two), (("a", "b"),)), order_for(two, late, legs(two), (("a", "b"), ("b", "a"))), first_trouble(two, late, (("k", "there"), ("j", "back")), (("a", "b"),))
    ((('j', 'back'), ('k', 'there'), ('j', 'there'), ('k', 'back')), None, 1)
"""

TEXTS = r"""
    >>> world_text(room), leg_text(("j", "there")), way_text(("b", (("j", "back"), ("k", "there")))), gain_text((4, 3)), gain_text((2, 1))
    ('p\na @ p SH\nb @ p S\nc @ p SH\nr = a+b 1/2', 'j.there', 'b>j.back>k.there', '4/3', '2')
"""

DESK = r"""
    >>> answers("p q\nj p > q 1/2 1/2\nk p > q 1/2 1/2\na @ p SH\nb @ q SH\n\nlegs\ntimes a b\nring\ncalm\nloud a b\ncut a b\nshut k.back\nshut k.there\ntimes a b\ntimes a a\nway a b\nway a a\nring\nloud a b\nhearers a\nopen k.back\nring\nshut l.back\nway a c\noverheard a")
    ['j.back j.there k.back k.there', 'endless', 'j.back k.there', 'yes', '4/3', 'j.there k.there', 'done', 'done', '1', '0', 'a>j.there', '-', '-', '1/2', 'b', 'done', 'j.there k.back', 'refused NoLeg', 'refused NoSeat', '-']
"""

FILES = (minusone.data, minusone.ways, minusone.rings, minusone.loud, minusone.cuts, minusone.mutes, minusone.texts,
         minusone.desk)


class Examples(unittest.TestCase):
    def run_examples(self, text, many):
        names = {}
        for file in FILES:
            names.update({name: thing for name, thing in vars(file).items() if not name.startswith("_")})
        test = doctest.DocTestParser().get_doctest(text, names, "examples", None, None)
        told = []
        result = doctest.DocTestRunner(verbose=False).run(test, out=told.append)
        self.assertEqual((result.failed, result.attempted), (0, many), "".join(told))

    def test_section_3(self):
        self.run_examples(WORLDS, 5)

    def test_section_4(self):
        self.run_examples(WORLDS + HOW_OFTEN, 7)

    def test_section_5(self):
        self.run_examples(WORLDS + GOES_ROUND, 6)

    def test_section_6(self):
        self.run_examples(WORLDS + HOW_LOUD, 8)

    def test_section_7(self):
        self.run_examples(WORLDS + SHUT_OFF, 6)

    def test_section_8(self):
        self.run_examples(WORLDS + HOW_LOUD + MUTES, 11)

    def test_section_9(self):
        self.run_examples(WORLDS + TEXTS, 6)

    def test_section_10(self):
        self.run_examples(WORLDS + DESK, 6)


if __name__ == "__main__":
    unittest.main()
