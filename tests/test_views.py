"""What systems have reached by reading, and the words that are made for signs."""

import unittest

from sentonward.views import NEVER, Joint, Search, behind, fed, spare_word, team_of, word_at
from tests.drawn import DROP, book, drawn_book
from tests.test_ends import TURNING


class ViewsTest(unittest.TestCase):

    def test_words(self):
        words = [word_at(number) for number in range(1000)]
        self.assertEqual(words[:3] + words[25:28] + words[701:703], ["a", "b", "c", "z", "aa", "ab", "zz", "aaa"])
        self.assertEqual(len(set(words)), 1000)
        self.assertEqual(words, sorted(words, key=lambda word: (len(word), word)))

    def test_spare_words(self):
        self.assertEqual(spare_word(), "a")
        self.assertEqual(spare_word({"a": True, "c": True}, ["b", "x"]), "d")

    def test_signs_that_can_be_read(self):
        joint = Joint(book("s /b/.. stays"), book("s /a/.. stays", "t / stays"))
        self.assertEqual((joint.vocabulary, joint.openings), (["a", "b"], ["s", "t"]))
        one, other = ("on", 0, "s", (1, 2)), ("on", 0, "s", (2, 1))
        for views, signs in (
            ((one, other), [1, 2, 3]), ((one, ("on", 0, "s", (1,))), [1, 2, 3]), ((("on", 0, "s", ()),) * 2, [1]),
            ((("on", 0, "s", ("a", 1)), ("settled", 0, "s", (2, "b", 1))), [1, 3]), ((NEVER, one), [1, 2, 3]),
            ((("settled", 0, "s", (1, 2, 3)), ("on", 0, "s", (3, 2))), [2, 3, 4]),
        ):
            self.assertEqual(joint.next_signs(views), ["a", "b"] + signs)

    def test_numbered_views(self):
        joint = Joint(DROP, book("s /a/.. stays"))
        views = (("on", 0, "s", ("x", "a")), ("settled", 0, "t", ("y", "x", "z")))
        told = (("on", 0, "s", (1, "a")), ("settled", 0, "t", (2, 1, 3)))
        self.assertEqual(joint.plain(views), (told, ["x", "y", "z"]))

    def test_words_for_signs_that_are_read(self):
        joint = Joint(DROP)
        path, views = joint.spelled(joint.begun("s"), [1, 2, 3, 2, 3, 1])
        # The first segment stays in hand, beside the last one; what is new is neither of them.
        self.assertEqual(path, ("a", "b", "c", "c", "b", "a"))
        self.assertEqual(views, (("on", 0, "s", ("a", "a")),))

    def test_routes(self):
        search = Search(Joint(DROP), ["s"])
        search.widen(0)
        search.widen(1)
        self.assertEqual(search.route(0), ("s", []))
        self.assertEqual([search.route(at) for at in (1, 2, 3)], [("s", [1]), ("s", [1, 1]), ("s", [1, 2])])
        self.assertEqual([search.address_of(at).text() for at in (2, 3)], ["s:/a/a", "s:/a/b"])

    def test_places(self):
        search = Search(Joint(DROP), ["s"])
        search.widen(0)
        search.widen(1)
        for hand, at in (((), 0), ((1,), 1), (("x",), 1), ((7,), 1), ((1, 1), 2), (("x", "x"), 2), (("b", "a"), 3), ((2, 1), 3)):
            views = (("on", 0, "s", hand),)
            self.assertEqual((search.place_of(views), search.found(views, 0, 1)), (at, at))
        self.assertEqual(len(search.nodes), 4)
        self.assertEqual(search.found((("on", 0, "t", ("y",)),), 0, 1), 4)
        self.assertEqual(search.nodes[4], (("on", 0, "t", (1,)),))

    def test_one_sign_at_a_time(self):
        found = 0
        for one in [DROP, TURNING, *[drawn_book(f"behind {seed}", 2, 2, 5) for seed in range(40)]]:
            team, joint = team_of(one), Joint(one)
            search = Search(joint, joint.openings)
            at = 0
            while at < len(search.nodes):
                view = search.nodes[at][0]
                if view[0] == "on":
                    search.widen(at)
                    for sign in [*joint.next_signs((view,)), None]:
                        told = fed(team, view, () if sign is None else (sign,), sign is None)
                        self.assertEqual(behind(team, view, sign, True), told)
                        self.assertEqual(behind(team, view, sign, False), told)
                        found += told[0] == NEVER
                at += 1
        self.assertGreater(found, 20)


if __name__ == "__main__":
    unittest.main()
