"""Points 1 to 6: one house asked by every part of the program tells the same."""

import unittest

from lonetill.claims import is_paper_of, is_true, paper_of
from lonetill.closed import all_closed, bars, bars_all
from lonetill.desk import Desk
from lonetill.empties import leads
from lonetill.ends import come_to, ends, rectangles, starts
from lonetill.forms import read
from lonetill.gains import least_start, leads_plain
from lonetill.goings import behind, is_going
from lonetill.grids import reach
from lonetill.least import least_price, price_from, price_to, within
from lonetill.lines import Line
from lonetill.meanings import first_for, holds, meaning, witness
from lonetill.prices import cheapest_going, price_of
from lonetill.roofs import least_roof, leads_under, roof_ends, roof_starts
from lonetill.shown import is_shown, shown
from lonetill.tables import gain_table, shuts
from lonetill.texts import written
from lonetill.tight import tight, with_room
from lonetill.under import low_going, roof_of
from lonetill.ways import a_going
from lonetill.worths import least_worths, tells_dear
from tests.priced import priced_house
from tests.test_least import ROUND
from tests.walked import come_to_from

FAR = 10 ** 29
HOUSES = [(ROUND, [1] * 5)] + [priced_house(seed, 3) for seed in (3, 8, 14)] + [priced_house(seed, 2) for seed in (5, 6)]
NUMBERS = (0, 1, 2, 5, FAR, FAR + 1)


class Whole(unittest.TestCase):
    def stands(self):
        """All houses, with prices and two stands of each."""
        for house, prices in HOUSES:
            for place in range(house.places):
                for goal in range(house.places):
                    for start in NUMBERS:
                        for end in NUMBERS:
                            yield house, prices, place, start, goal, end

    def test_what_leads(self):
        parts = {}
        for house, prices, place, start, goal, end in self.stands():
            key = (id(house), place, goal)
            if key not in parts:
                parts[key] = (reach(house, place, goal), rectangles(house, place, goal), all_closed(house, place), gain_table(house, place),
                              with_room(house, place, goal, tight(house, place, goal)), come_to(house, place, goal))
            grid, boxes, paper, table, roomy, some = parts[key]
            right = leads(house, place, start, goal, end)
            self.assertIs(ends(house, place, start)[goal].has(end), right)
            self.assertIs(starts(house, goal, end)[place].has(start), right)
            self.assertIs(grid.has(start, end), right)
            self.assertIs(roomy.has(start, end), right)
            self.assertIs(bars_all(house, place, start, goal, end, paper), not right)
            self.assertIs(bars(house, place, start, goal, end, ends(house, place, start)), not right)
            plain = leads_plain(house, place, start, goal, end)
            least = least_start(house, place, goal, end - start)
            self.assertIs(plain, least is not None and least <= start)
            self.assertIs(shuts(house, place, start, goal, end, table), not plain)
            self.assertIs(right, plain or any(first.has(start) and second.has(end) for first, second in boxes))
            self.assertIs(some.has(start), not ends(house, place, start)[goal].is_empty)
            self.assertIs(holds(house, ("leads", place, "n", goal, "m"), {"n": start, "m": end}), right)
            if max(start, end) < FAR:
                self.assertIs((goal, end) in come_to_from(house, (place, start), max(start, end) + house.places ** 2), right)

    def test_goings_prices_roofs(self):
        for house, prices, place, start, goal, end in self.stands():
            right = leads(house, place, start, goal, end)
            goings = [a_going(house, place, start, goal, end), cheapest_going(house, prices, place, start, goal, end), low_going(house, place, start, goal, end)]
            price, roof = least_price(house, prices, place, start, goal, end), least_roof(house, place, start, goal, end)
            self.assertEqual([found is not None for found in goings + [price, roof]], [right] * 5)
            worths = least_worths(house, prices, place, start)
            self.assertEqual(worths[goal].at(end), price)
            self.assertIs(tells_dear(house, prices, place, start, goal, end, 10 ** 40, worths), not right)
            if not right:
                continue
            for going in goings:
                self.assertIs(is_going(house, place, start, going), True)
                self.assertEqual(behind(house, place, start, going), (goal, end))
                self.assertGreaterEqual(price_of(house, prices, going), price)
                self.assertGreaterEqual(roof_of(house, place, start, going), roof)
            self.assertEqual((price_of(house, prices, goings[1]), roof_of(house, place, start, goings[2])), (price, roof))
            self.assertIs(leads_under(house, place, start, goal, end, roof), True)
            self.assertIs(roof_ends(house, place, start, roof)[goal].has(end) and roof_starts(house, goal, end, roof)[place].has(start), True)
            self.assertEqual((price_from(house, prices, place, start)[goal].at(end), price_to(house, prices, goal, end)[place].at(start)), (price, price))

    def test_pairs_up_to_a_price(self):
        for house, prices in HOUSES:
            for many in (0, 4, 40):
                grid = within(house, prices, 0, 0, many)
                self.assertIs(reach(house, 0, 0).is_within(grid), False if grid != reach(house, 0, 0) else True)
                self.assertIs(grid.is_within(reach(house, 0, 0)), True)
                for start in NUMBERS:
                    for end in NUMBERS:
                        price = least_price(house, prices, 0, start, 0, end)
                        self.assertIs(grid.has(start, end), price is not None and price <= many)

    def test_sayings(self):
        for house, _ in HOUSES:
            for place in range(house.places):
                leaf = ("leads", 0, "n", place, "m")
                grid = reach(house, 0, place)
                self.assertEqual(meaning(house, leaf), grid)
                self.assertEqual(first_for(house, leaf), grid.first())
                self.assertEqual(meaning(house, ("some", "m", leaf)), come_to(house, 0, place))
                self.assertEqual(meaning(house, ("all", "m", leaf)), grid.each())
                told = witness(house, ("all", "n", ("some", "m", leaf)))
                self.assertEqual(told, (Line.counts() - come_to(house, 0, place)).least())
                for saying in (leaf, ("not", leaf), ("some", "m", leaf), ("all", "n", ("some", "m", leaf))):
                    self.assertIs(is_shown(house, saying, shown(house, saying)), True)
                    self.assertEqual(read(written(saying)), saying)

    def test_claims_texts_and_the_desk(self):
        for house, prices in HOUSES:
            self.assertEqual(read(written(house)), house)
            desk = Desk()
            desk.do(f"house a {house.places}")
            for (place, change, goal, when), price in zip(house.deeds(), prices):
                desk.do(f"put a {place} {change} {goal} {when} {price}")
            self.assertEqual(desk["a"], (house, prices))
            for start in (0, 2, FAR):
                for goal in range(house.places):
                    for end in (0, 1, FAR):
                        right, stands = leads(house, 0, start, goal, end), f"a 0 {start} {goal} {end}"
                        price, roof = least_price(house, prices, 0, start, goal, end), least_roof(house, 0, start, goal, end)
                        told = [desk.do(f"{word} {stands}") for word in ("leads", "cost", "roof")]
                        self.assertEqual(told, ["yes" if right else "no"] + ["none" if found is None else str(found) for found in (price, roof)])
                        lines = [f"leads {stands}", f"shut {stands}", f"cheap {stands} {price or 0}", f"dear {stands} {price or 0}", f"under {stands} {roof or 0}", f"over {stands} {roof or 0}"]
                        desk.do_all(*[f"claim l{at} {line}" for at, line in enumerate(lines)])
                        for at in range(6):
                            claim = desk.claim_of(f"l{at}")
                            self.assertIs(is_true(claim), right == (at % 2 == 0))
                            paper = paper_of(claim)
                            if paper is not None:
                                self.assertIs(is_paper_of(claim, paper), True)
                                desk.attach(f"l{at}", paper)
                                if claim[0] in ("leads", "cheap", "under"):
                                    self.assertEqual(read(written(paper)), paper)
                            self.assertIs(desk.fits(f"l{at}"), paper is not None)
                        desk.do_all(*["undo"] * 6)

    def test_the_overview(self):
        desk = Desk()
        desk.do_all("house a 3", *["put a " + " ".join(map(str, deed)) + " 1" for deed in ROUND.deeds()])
        self.assertEqual([desk.do(line) for line in ("least a 0 5 0", "leads a 0 5 0 7", "leads a 0 0 0 1", "leads a 0 0 0 3", "leads a 0 0 0 4", "cost a 0 5 0 0", "roof a 0 5 0 0",
                                                     "ask a all n some m and leads 0 n 0 m not below m n 0", "ask a all m leads 0 n 0 m", "ask a all n all m leads 0 n 0 m")],
                         ["0", "yes", "no", "no", "yes", "6", "5", "yes", "1", "no"])
        self.assertEqual(witness(ROUND, ("some", "n", ("all", "m", ("leads", 0, "n", 0, "m")))), 1)
        self.assertEqual(witness(ROUND, ("all", "n", ("all", "m", ("leads", 0, "n", 0, "m")))), 0)


if __name__ == "__main__":
    unittest.main()
