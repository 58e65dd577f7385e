"""What the document promises over the whole program: the names that are there, and that nothing is kept."""

import copy
import importlib
import inspect
import unittest

from kindleweb import errors
from kindleweb.keeper import Keeper
from kindleweb.webs import made_web
from tests.samples import REFUSALS

INTERFACE = {
    "webs": ["made_web(wants, links)", "hearths_in(web)", "near(web, hearth)", "degree_of(web, hearth)",
             "made_set(web, hearths)", "moved_web(web, places)", "rest_web(web, some)"],
    "notes": ["web_text(web)", "read_web(text)"],
    "spread": ["rounds(web, seeds)", "burnt(web, seeds)", "lights_all(web, seeds)", "kindled_by(web, seeds, order)"],
    "causes": ["causes(web, seeds)", "judged_causes(web, seeds, told)"],
    "cold": ["is_cold(web, block)", "cold_within(web, some)", "cold_rest(web, seeds)", "cold_pieces(web, block)"],
    "blocks": ["least_within(web, some)", "is_least(web, block)", "least_colds(web)", "cold_paper(web, seeds)",
               "judged_cold(web, seeds, block)"],
    "least": ["least_many(web)", "all_least(web)", "least_count(web)", "least_numbered(web, number)",
              "number_of_least(web, seeds)", "cheapest(web, prices)", "blocks_apart(web)"],
    "pared": ["price_of(web, prices, seeds)", "pared(web, seeds)", "own_paper(web, seeds)",
              "judged_own(web, seeds, paper)"],
    "orders": ["is_row(web, seeds, row)", "is_order(web, seeds, row)", "first_order(web, seeds)",
               "order_many(web, seeds)", "order_numbered(web, seeds, number)", "number_of_order(web, seeds, row)"],
    "musts": ["burnt_without(web, seeds, hearth)", "musts(web, seeds)", "order_with(web, seeds, one, other)",
              "last_place(web, seeds, hearth)"],
    "woods": ["is_wood(web)", "elders_of(web)", "apart_paper(web)", "judged_apart(web, paper)"],
    "ledgers": ["best_ledger(web, prices)", "judged_ledger(web, prices, ledger)", "wood_cheapest(web, prices)"],
    "boards": ["board_web(rows, columns)", "cells_beside(rows, columns, cell)", "board_burnt(rows, columns, seeds)",
               "outline(rows, columns, cells)", "fewest_on_board(rows, columns)", "board_seeds(rows, columns)"],
    "boxes": ["near_boxes(one, other)", "hull_of(one, other)", "grown_boxes(rows, columns, seeds)",
              "growth(rows, columns, seeds)", "judged_growth(rows, columns, seeds, steps)",
              "grown_alone(rows, columns, seeds, box)", "middling_box(rows, columns, seeds, length)"],
    "pledges": ["dues(web, weights)", "takings(web, weights, seeds)", "is_within(web, weights, seeds)",
                "pledge_bound(web, weights)", "pledge_reach(web, weights, many)", "best_plain(web)"],
    "rests": ["full_web(many, links)", "nearly_full_web(many, links)", "is_full(web)", "is_nearly_full(web)",
              "link_in(web, some)", "round_in(web, some)", "measure_of(web)"],
    "covers": ["colours_of(web)", "odd_round(web)", "cover_of(web)", "judged_cover(web, cover)"],
    "strips": ["strip_web(wants, length)", "strip_count(wants, length)", "strip_counts(wants, length)",
               "strip_least(wants, length)", "strip_seeds(wants, length)"],
    "keeper": ["deed_done(web, seeds, deed)", "Keeper(web)"],
    "sheet": ["answered(sheet)"],
}
METHODS = ["web_now()", "seeds_now()", "burning()", "cause_of(hearth)", "deeds()", "do(deed)", "back()", "again()"]

WEB = made_web([1, 2, 1, 1], [(0, 1), (1, 2), (2, 3)])
WEBS = {
    "web": WEB, "wants": [2, 1], "links": [(1, 0)], "hearth": 1, "hearths": [0, 2], "places": [3, 1, 0, 2],
    "some": [0, 1, 2], "text": "1 1\n0-1", "seeds": [1], "order": [3, 2, 1, 0], "block": [0, 1], "number": 0,
    "prices": [3, 1, 4, 1], "row": [0, 2, 3], "one": 0, "other": 2, "weights": [1, 2, 3], "many": 2, "length": 5,
    "told": [(1, (1,)), (0, ()), (1, (1,)), (2, (2,))], "ledger": [(0, 0)] * 4, "deed": ("want", 0, 0),
    "sheet": "hearths 1", "paper": ((1,), ((0, 1),)), "cover": ((1, 2), ((0, 1), (2, 3))),
}
BOARDS = {
    "rows": 4, "columns": 5, "cell": (1, 1), "seeds": [(0, 0), (1, 1)], "cells": [(0, 0), (1, 1)], "one": (0, 0, 1, 1),
    "other": (3, 3, 3, 3), "steps": [((0, 0, 0, 0), (1, 1, 1, 1))], "box": (0, 0, 1, 1), "length": 2,
}
# Where another thing is asked for under the same name.
APART = {"burnt_without": {"hearth": 2}, "last_place": {"hearth": 2}, "judged_own": {"paper": [(0, 1, 2, 3)]}}


def functions():
    """Each function, with arguments of its own that it does not refuse."""
    for module, rows in INTERFACE.items():
        for row in rows:
            name, names = row[:-1].split("(")
            handed = dict(BOARDS if module in ("boards", "boxes") else WEBS)
            handed.update(APART.get(name, {}))
            yield (getattr(importlib.import_module("kindleweb." + module), name),
                   [copy.deepcopy(handed[part]) for part in names.split(", ")])


class Names(unittest.TestCase):
    def test_functions_and_their_arguments(self):
        for module, rows in INTERFACE.items():
            for row in rows:
                name, names = row[:-1].split("(")
                thing = getattr(importlib.import_module("kindleweb." + module), name)
                self.assertEqual(list(inspect.signature(thing).parameters), names.split(", "), row)

    def test_methods_of_a_keeper(self):
        for row in METHODS:
            name, names = row[:-1].split("(")
            method = getattr(Keeper(WEB), name)
            self.assertEqual(list(inspect.signature(method).parameters), [part for part in names.split(", ") if part])

    def test_refusals(self):
        for name in REFUSALS:
            self.assertEqual(getattr(errors, name).__bases__, (errors.HearthError,))
        self.assertEqual(errors.HearthError.__bases__, (ValueError,))
        own = [name for name, thing in vars(errors).items() if inspect.isclass(thing)]
        self.assertEqual(sorted(own), sorted(REFUSALS + ("HearthError",)))


class NothingIsKept(unittest.TestCase):
    def test_what_is_handed_in_stays(self):
        for call, handed in functions():
            before = copy.deepcopy(handed)
            call(*handed)
            self.assertEqual(handed, before, call)

    def test_what_is_told_stays_and_can_be_changed(self):
        for call, handed in functions():
            if call is Keeper:
                continue
            before = copy.deepcopy(handed)
            told = call(*handed)
            same = copy.deepcopy(told)
            for part in handed:
                if isinstance(part, list):
                    part.clear()
            self.assertEqual(told, same, call)
            if isinstance(told, list):
                self.assertFalse(any(isinstance(part, (list, dict)) for part in told), call)
                told.clear()
            else:
                self.assertIn(type(told), (int, bool, str, tuple, type(None)), call)
            again = call(*copy.deepcopy(before))
            self.assertEqual(again, same, call)
            self.assertIs(type(again), type(same), call)


if __name__ == "__main__":
    unittest.main()
