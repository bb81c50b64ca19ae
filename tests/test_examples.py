"""The document's own examples, answer for answer."""

import unittest

from givesifgets.dockets import is_docket, renamed_docket
from givesifgets.dockettexts import docket_text
from givesifgets.reading import completed, may_follow, read_docket
from givesifgets.registry import registry_of, ties_of
from givesifgets.tokens import token_places, tokens_of
from givesifgets.turns import gain, turned
from givesifgets.webs import arcs_of, neighbours, pair_web, renamed_web, without


class Examples(unittest.TestCase):
    def test_chapter_3(self):
        registry = registry_of([[0, 1], [1]], [0, 1, 1], [(0, 1), (1, 0), (1, 2), (0, None)], [(3, 2)])
        self.assertEqual(registry, (((0, 1), (1,)), (0, 1, 1), ((0, 1), (1, 0), (1, 2), (0, None)), ((3, 2),)))
        self.assertEqual(ties_of(registry), ((0, 0), (0, 2), (1, 1), (1, 2), (2, 1), (3, 0), (3, 1)))
        web = pair_web(registry)
        self.assertEqual(web, (3, ((0, 1), (1, 2))))
        self.assertEqual(arcs_of(registry)[1:], (((0, 1), (0, 2), (1, 0), (1, 2), (2, 1)), ((0, 1),)))
        self.assertEqual(neighbours(web, 1), (0, 2))
        self.assertEqual(renamed_web(web, (2, 0, 1)), (3, ((0, 1), (0, 2))))
        self.assertEqual(without(web, (0,)), (3, ((1, 2),)))

    def test_chapter_4(self):
        registry = registry_of([[0, 1], [0]], [0, 0], [(1, 0), (0, 1), (1, None)], [(2, 1)])
        docket = (registry, (1, 0), ((1, 0), (0, 1)))
        text = docket_text(docket)
        self.assertEqual(" ".join(tokens_of(text)), (
            "kind 0 : 0 1 ; kind 1 : 0 ; person 0 : 0 ; person 1 : 0 ; friend 0 : 1 for 0 ; friend 1 : 0 for 1 ; "
            "friend 2 : 1 free ; barred 2 to 1 ; order : 1 0 ; wishes 0 : 1 0 ; wishes 1 : 0 1 ;"))
        self.assertIs(is_docket(docket), True)
        self.assertEqual(read_docket(text), docket)
        self.assertEqual(renamed_docket(docket, (1, 0))[2], ((1, 0), (0, 1)))
        self.assertEqual(may_follow("kind 0 : 1 ;"), ("kind",))
        self.assertEqual(may_follow("kind 0 : 0 ; friend 0 : 0"), ("free",))
        self.assertIsNone(completed("kind 0 : 0 0"))
        self.assertEqual(token_places("a #b\n;"), (0, 5))

    def test_chapter_5(self):
        web = (6, ((0, 1), (1, 2), (2, 3), (3, 4), (4, 5)))
        one, other = ((1, 2), (3, 4)), ((0, 1), (2, 3), (4, 5))
        way = ("way", (0, 1, 2, 3, 4, 5))
        self.assertEqual(turned(web, one, way), other)
        self.assertEqual(gain(one, ("way", (2, 1))), -1)
