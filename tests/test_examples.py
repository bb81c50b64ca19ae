"""The document's own examples, answer for answer."""

import unittest

from givesifgets.audits import why_not
from givesifgets.barriers import odd_parts, spare_number
from givesifgets.bases import is_base, most_of, rivals
from givesifgets.calendars import is_timetable, jobs_of, left_over
from givesifgets.changes import pair_news, person_gone
from givesifgets.deeds import can_do, do_all, do_deed, ring_deed
from givesifgets.dockets import is_docket, renamed_docket
from givesifgets.dockettexts import docket_text
from givesifgets.fairness import is_fair, wronged
from givesifgets.falls import left_web
from givesifgets.fates import fate, needed_pairs
from givesifgets.fronts import fronts
from givesifgets.gaining import gaining, is_gaining
from givesifgets.helping import helping_pairs
from givesifgets.hiding import less
from givesifgets.houses import House
from givesifgets.kept import kept_lot, kept_plan, places
from givesifgets.keptpapers import beginnings, is_kept_paper
from givesifgets.lies import asking, loser, reach
from givesifgets.lives import diary, lived
from givesifgets.living import begun, served_now
from givesifgets.livingchanges import changed, touched, ways_of
from givesifgets.logrows import deed_of, row_of
from givesifgets.logs import cut_log, log_of, mended, read_back
from givesifgets.lotbarriers import closed_parts, is_lot_paper
from givesifgets.moves import after_move
from givesifgets.news import near_plans
from givesifgets.packs import served_by
from givesifgets.pieces import pieces_of
from givesifgets.promises import price
from givesifgets.reading import completed, may_follow, read_docket
from givesifgets.registry import registry_of, ties_of
from givesifgets.search import even_way, grown_plan, is_even_way, largest_plan
from givesifgets.servable import is_servable, taken_in
from givesifgets.shortlists import first_cover, short_list
from givesifgets.strands import ends, exchanged, growing_ways, strands
from givesifgets.threeparts import plan_without, three_parts
from givesifgets.timetables import fewest_days, first_timetable, is_delay_paper
from givesifgets.together import gain_together
from givesifgets.tokens import token_places, tokens_of
from givesifgets.trading import deal_rings, is_deal, rounds, trade
from givesifgets.trees import fault_of
from givesifgets.trials import fewest_tests, missing
from givesifgets.turns import gain, turned
from givesifgets.wards import best_apart
from givesifgets.webs import arcs_of, neighbours, pair_web, renamed_web, without
from givesifgets.wishprices import are_prices, deal_paper, least_prices
from givesifgets.worlds import givers_left, links_left, people_left, start_world, web_left
from givesifgets.worths import dearest_lot

SEVEN = (7, ((0, 1), (0, 2), (1, 2), (2, 3), (3, 4), (3, 5), (5, 6)))


class Examples(unittest.TestCase):
    def test_chapter_3(self):
        registry = registry_of([[0, 1], [1]], [0, 1, 1], [(0, 1), (1, 0), (1, 2), (0, None)], [(3, 2)])
        self.assertEqual(registry, (((0, 1), (1,)), (0, 1, 1), ((0, 1), (1, 0), (1, 2), (0, None)), ((3, 2),)))
        self.assertEqual(ties_of(registry), ((0, 0), (0, 2), (1, 1), (1, 2), (2, 1), (3, 0), (3, 1)))
        web = pair_web(registry)
        self.assertEqual(web, (3, ((0, 1), (1, 2))))
        self.assertEqual(arcs_of(registry)[1:], (((0, 1), (0, 2), (1, 0), (1, 2), (2, 1)), ((0, 1),)))
        self.assertEqual(neighbours(web, 1), (0, 2))
        self.assertEqual(renamed_web(web, (2, 0, 1)), (3, ((0, 1), (0, 2))))
        self.assertEqual(without(web, (0,)), (3, ((1, 2),)))

    def test_chapter_4(self):
        registry = registry_of([[0, 1], [0]], [0, 0], [(1, 0), (0, 1), (1, None)], [(2, 1)])
        docket = (registry, (1, 0), ((1, 0), (0, 1)))
        text = docket_text(docket)
        self.assertEqual(" ".join(tokens_of(text)), (
            "kind 0 : 0 1 ; kind 1 : 0 ; person 0 : 0 ; person 1 : 0 ; friend 0 : 1 for 0 ; friend 1 : 0 for 1 ; "
            "friend 2 : 1 free ; barred 2 to 1 ; order : 1 0 ; wishes 0 : 1 0 ; wishes 1 : 0 1 ;"))
        self.assertIs(is_docket(docket), True)
        self.assertEqual(read_docket(text), docket)
        self.assertEqual(renamed_docket(docket, (1, 0))[2], ((1, 0), (0, 1)))
        self.assertEqual(may_follow("kind 0 : 1 ;"), ("kind",))
        self.assertEqual(may_follow("kind 0 : 0 ; friend 0 : 0"), ("free",))
        self.assertIsNone(completed("kind 0 : 0 0"))
        self.assertEqual(token_places("a #b\n;"), (0, 5))

    def test_chapter_5(self):
        web = (6, ((0, 1), (1, 2), (2, 3), (3, 4), (4, 5)))
        one, other = ((1, 2), (3, 4)), ((0, 1), (2, 3), (4, 5))
        way = ("way", (0, 1, 2, 3, 4, 5))
        self.assertEqual(strands(one, other), (way,))
        self.assertEqual(growing_ways(one, other), strands(one, other))
        self.assertEqual(turned(web, one, way), other)
        self.assertEqual(exchanged(one, ((0, 1), (3, 4)), 0), (((0, 1), (3, 4)), 2))
        self.assertEqual(ends(one, ((0, 1), (3, 4))), ((0, 2),))
        self.assertEqual(gain(one, ("way", (2, 1))), -1)

    def test_chapter_6(self):
        plan = ((0, 1), (2, 3), (5, 6))
        self.assertEqual(three_parts(SEVEN), ((0, 1, 2, 4), (3,), (5, 6)))
        self.assertEqual(three_parts((3, ((0, 1), (1, 2)))), ((0, 2), (1,), ()))
        self.assertEqual(len(largest_plan(SEVEN)), 3)
        self.assertEqual(odd_parts(SEVEN, (3,)), ((0, 1, 2), (4,)))
        self.assertEqual((spare_number(SEVEN, (3,)), spare_number(SEVEN, ())), (1, 1))
        self.assertIsNone(grown_plan(SEVEN, plan))
        self.assertIs(is_even_way(SEVEN, plan, (4, 3, 2)), True)
        self.assertIsNone(even_way(SEVEN, plan, 6))
        self.assertIsNone(plan_without(SEVEN, 6))

    def test_chapter_7(self):
        self.assertIs(is_servable(SEVEN, (0, 1, 2)), True)
        self.assertIs(is_servable(SEVEN, (0, 1, 2, 4)), False)
        self.assertEqual(closed_parts(SEVEN, (0, 1, 2, 4), (3,)), ((0, 1, 2), (4,)))
        self.assertEqual(most_of(SEVEN, (0, 1, 2, 4)), 3)
        self.assertEqual(rivals(SEVEN, (0, 1, 2, 3, 5, 6), 4), (0, 1, 2))
        self.assertIn(taken_in(SEVEN, (4, 5), (0, 1, 2))[0], (0, 1, 2))
        self.assertIs(is_base(SEVEN, (0, 1, 3, 4, 5, 6)), True)
        self.assertIs(is_lot_paper(SEVEN, (0, 1, 2, 4), ("barred", (3,))), True)
        self.assertIs(is_lot_paper(SEVEN, (0, 1), ("served", ((0, 1),))), True)

    def test_chapter_8(self):
        web, order = (5, ((0, 1), (1, 2), (2, 3), (3, 4))), (0, 2, 4, 1, 3)
        self.assertEqual(kept_lot(web, order), (0, 1, 2, 3))
        self.assertEqual(kept_plan(web, order), ((0, 1), (2, 3)))
        self.assertEqual(beginnings(web, order), (0, 1, 2, 2, 3, 4))
        self.assertIs(is_kept_paper(web, order, (((0, 1), (2, 3)), ((4, (1, 3)),))), True)
        self.assertEqual(places(order, (1, 4)), (2, 3))
        self.assertEqual(dearest_lot(web, (1, 2, 1, 2, 9)), (0, 1, 3, 4))
        self.assertEqual(after_move(web, order, 4, 1), (4, 2))
        self.assertIsNone(after_move(web, order, 4, 2))

    def test_chapter_9(self):
        web, order = (4, ((0, 1), (1, 2))), (0, 1, 2, 3)
        self.assertEqual(pair_news(web, order, (0, 3)), ("come", (2, 3)))
        self.assertEqual(pair_news(web, order, (0, 1)), ("instead", 2, 0))
        self.assertEqual(person_gone(web, order, 0), ("instead", 2))
        self.assertEqual(near_plans(web, less(web, ((0, 1),)), order), (((0, 1),), ((1, 2),)))
        self.assertEqual(gain_together(web, order, (1, 2), 9), ((1, 2),))
        self.assertEqual(best_apart(web, order, (1, 2), 9), (2, ((1, 2),)))

    def test_chapter_10(self):
        arcs, pack = (3, ((0, 1), (0, 2), (1, 0), (1, 2), (2, 0), (2, 1)), ()), (("ring", (0, 1)),)
        ends_of_it = tuple([("prices", 1, row, ()) for row in ((1, 1, 0), (1, 0, 1), (0, 1, 1))])
        trees = (ends_of_it, (("who", 0),) + ends_of_it)
        self.assertEqual([fault_of(arcs, (2, 1), (1, 1, 1), pack, tree) for tree in trees], [0, None])

    def test_chapter_11(self):
        web = (6, ((0, 1), (0, 2), (0, 3), (0, 4), (1, 5)))
        self.assertEqual(fate(web, (0, 1)), "none")
        self.assertEqual(needed_pairs(web), ((1, 5),))
        self.assertEqual(left_web(web, (((0, 4),), (5,)))[1], ((0, 1), (0, 2), (0, 3)))
        self.assertEqual(first_cover(web), (0, 1))
        self.assertEqual(short_list(web, (5, 4, 3, 2, 1, 0), (0, 1), 0)[1], ((0, 1), (0, 3), (0, 4), (1, 5)))
        self.assertEqual((fewest_tests(web, (), 1), fewest_tests(web, (), 5), missing(web, ((0, 2),))), (2, 5, 1))

    def test_chapter_12(self):
        wishes = ((2, 1, 0), (2, 0, 1), (1, 3, 0, 2), (2, 3))
        self.assertEqual(rounds(wishes), (((1, 2),), ((0,), (3,))))
        self.assertEqual(trade(wishes), (0, 2, 1, 3))
        self.assertEqual(deal_rings((2, 0, 1, 3)), ((0, 1, 2),))
        self.assertIs(is_deal(wishes, (1, 0, 2, 3)), True)
        self.assertIs(is_gaining(wishes, (1, 0, 2, 3), ((1, 2), (2, 1))), True)
        self.assertIsNone(gaining(wishes, trade(wishes)))
        self.assertEqual(least_prices(wishes), (0, 1, 1, 0))
        self.assertEqual(deal_paper(wishes, (1, 0, 2, 3))[0], "gaining")
        self.assertIs(are_prices(wishes, trade(wishes), (5, 9, 9, 0)), True)
        self.assertEqual((reach(wishes, 2), reach(wishes, 0)), ((0, 1, 2, 3), (0,)))
        self.assertEqual((asking(wishes, 2, 0)[2], loser(wishes, asking(wishes, 2, 0))), ((0, 2), 2))

    def test_chapter_13(self):
        calendar, jobs = (4, 5, 4), ((2, (0, 1, 2)), (3, (0, 1, 2)), (2, (0, 2)), (4, (1, 2)))
        self.assertEqual((fewest_days(calendar, jobs), first_timetable(calendar, jobs)), (3, (0, 1, 0, 2)))
        self.assertIs(is_timetable(calendar, jobs, (0, 1, 0, 2)), True)
        self.assertEqual(fronts(calendar, jobs, 2), (((),), ((0, 2), (1,)), ((0, 1, 2), (0, 2, 3), (1, 3))))
        self.assertIs(is_delay_paper(calendar, jobs, 2, fronts(calendar, jobs, 2)), True)
        self.assertEqual(left_over(calendar, jobs, (0, 1, 0, 2), 2), (2, 2, 4))
        self.assertEqual(jobs_of((9, 9), (("chain", 0, (2,)), ("ring", (0, 1))), ((0,), (), (1,))), ((1, (0,)), (2, (1,))))

    def test_chapter_14(self):
        registry = registry_of([[0], [0]], [0, 0, 0], [(0, 0), (0, 1), (1, 2), (0, None)], [(0, 2)])
        world = start_world(registry)
        self.assertEqual(ring_deed(world, (0, 1)), ("ring", ((0, 1), (1, 0))))
        self.assertEqual(links_left(world), ((3, 0), (3, 1), (3, 2)))
        self.assertEqual(people_left(do_deed(world, ("away", 1))), (0, 2))
        self.assertEqual(web_left(world), (3, ((0, 1), (1, 2))))
        later = do_all(world, [("link", (3, 2)), ("day",), ("link", (2, 0))])
        self.assertEqual((later[0], later[2:]), (1, ((0, 2), (2, 3), ((0, 1),), ())))
        self.assertEqual(givers_left(later), (0,))
        self.assertIs(can_do(later, ("ring", ((0, 1), (1, 0)))), False)

    def test_chapter_15(self):
        self.assertEqual(row_of(("ring", ((0, 1), (1, 0)))), "ring 0>1 1>0.")
        self.assertEqual((deed_of("come - 0."), deed_of("away 04."), deed_of("day")), (("come", None, (0,)), None, None))
        log = log_of([("link", (3, 2)), ("day",), ("link", (2, 0))])
        self.assertEqual(log, ("link 3>2.", "day.", "link 2>0."))
        self.assertEqual(cut_log(log, 18), ("link 3>2.", "day.", "link "))
        self.assertEqual((mended(cut_log(log, 18)), cut_log(log, 0)), (("link 3>2.", "day."), ()))
        registry = registry_of([[0], [0]], [0, 0, 0], [(0, 0), (0, 1), (1, 2), (0, None)], [(0, 2)])
        self.assertEqual(read_back(registry, cut_log(log, 18))[:1], (1,))
        self.assertEqual((read_back(registry, log)[2:4], read_back(registry, ())[0]), (((0, 2), (2, 3)), 0))

    def test_chapter_16(self):
        order = (0, 1, 2, 3, 5, 6, 4)
        self.assertEqual(why_not(SEVEN, order, 4), (((0, 1, 2), (4,)), (3,)))
        self.assertEqual(why_not((3, ((0, 1),)), (0, 1, 2), 2), (((2,),), ()))
        self.assertEqual(helping_pairs(SEVEN, order, 4), ())
        self.assertEqual(helping_pairs((4, ((0, 1), (1, 2))), (0, 1, 2, 3), 2), ((0, 3), (2, 3)))
        self.assertEqual(wronged(SEVEN, (4, 0, 1, 2, 3, 5, 6), ((0, 1), (2, 3), (5, 6)))[0], 4)
        self.assertIs(is_fair(SEVEN, (4, 0, 1, 2, 3, 5, 6), ((0, 1), (3, 4), (5, 6))), True)

    def test_chapter_17(self):
        registry = registry_of([[1], [0, 2], [1, 3], [2]], [0, 1, 2], [(0, 0), (1, 1), (2, 2)], [])
        life = begun(start_world(registry), (1, 0, 2))
        self.assertEqual((life[3], ways_of(life, ("deed", ("away", 0)))), (((0, 1),), (("way", (1, 2)),)))
        self.assertEqual(touched(life, ("move", 2, 1)), (2,))
        self.assertEqual(served_now(changed(life, ("move", 2, 1))), (1, 2))
        row = [("promise", (0, 1)), ("deed", ("come", 3, (3,)))]
        self.assertEqual(price(lived(life, row)), ((), ()))
        self.assertEqual(diary(life, row + [("all",)]), (((), ()), ((2, 3), ()), ((), ())))

    def test_chapter_18(self):
        house = House("kind 0 : 0 ; person 0 : 0 ; person 1 : 0 ; person 2 : 0 ; friend 0 : 0 for 0 ; friend 1 : 0 for 1 ; "
                      "friend 2 : 0 for 2 ; order : 2 0 1 ; wishes 0 : 0 ; wishes 1 : 1 ; wishes 2 : 2 ;")
        self.assertEqual((house.plan(), house.reason(1)), (((0, 2),), (((0, 1, 2),), ())))
        self.assertEqual(house.next_rings(), (("ring", ((0, 2), (2, 0))),))
        self.assertIsNone(house.do(house.next_rings()[0]))
        self.assertEqual((house.world()[2:4], house.cut(5), house.world()[2]), (((0, 2), (0, 2)), 1, ()))

    def test_chapter_10_rings_of_pieces(self):
        """If the only pieces are these rings, 0, 2, 3 can be served, and 1 to 4, but not 0 with 1 or 4."""
        arcs = (5, ((0, 2), (1, 2), (2, 1), (2, 3), (3, 0), (3, 4), (4, 3)), ())
        self.assertEqual(pieces_of(arcs, (3, 1)), (("ring", (0, 2, 3)), ("ring", (1, 2)), ("ring", (3, 4))))
        self.assertEqual(served_by((("ring", (1, 2)), ("ring", (3, 4)))), (1, 2, 3, 4))
