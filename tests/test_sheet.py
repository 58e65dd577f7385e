import unittest

from kindleweb.blocks import cold_paper
from kindleweb.errors import HearthError
from kindleweb.keeper import Keeper
from kindleweb.least import all_least
from kindleweb.orders import order_many, order_numbered
from kindleweb.sheet import answered
from kindleweb.spread import rounds
from kindleweb.webs import made_web
from tests.samples import mixed_webs
from tests.test_keeper import mixed_deeds

ALONE = ("back", "again", "seeds", "burning", "cold", "wants", "links", "rounds", "block", "least", "many", "orders")
WITH_ONE = ("light", "douse", "why", "lights", "order")
WITH_TWO = ("want", "link", "cut")
BEGIN = "hearths 1 1 1\nlink 0 1\nlink 1 2\n"
# All that can be asked of what a keeper holds.
ALL = "seeds\nburning\ncold\nwants\nlinks\nrounds\nblock\nwhy 0\nwhy 1\nwhy 2"


def rows_of(sheet):
    return answered(sheet).split("\n")


def last(sheet):
    return rows_of(sheet)[-1]


def written(numbers):
    return " ".join(str(number) for number in numbers) or "."


class Answers(unittest.TestCase):
    def asked(self, pairs):
        """Rows, each with its answer."""
        self.assertEqual(rows_of("\n".join(row for row, answer in pairs)), [answer for row, answer in pairs])

    def test_hearths(self):
        self.asked([("hearths", "0"), ("wants", "."), ("hearths 3", "1"), ("wants", "3"), ("hearths 0 60 2", "3"),
                    ("wants", "0 60 2"), ("links", "."), ("seeds", "."), ("hearths" + " 7" * 40, "40")])

    def test_deeds(self):
        self.asked([("hearths 1 1 2", "3"), ("light 0", "lit 0 out ."), ("link 1 0", "lit 1 out ."),
                    ("link 1 2", "lit . out ."), ("link 0 2", "lit 2 out ."), ("cut 2 0", "lit . out 2"),
                    ("want 2 1", "lit 2 out ."), ("want 1 5", "lit . out 1 2"), ("back", "lit 1 2 out ."),
                    ("again", "lit . out 1 2"), ("douse 0", "lit . out 0"), ("links", "0-1 1-2"), ("wants", "1 5 1")])

    def test_sets_and_rows(self):
        self.asked([("hearths 1 1 2 1 9", "5"), ("link 3 2", "lit . out ."), ("link 0 1", "lit . out ."),
                    ("link 1 2", "lit . out ."), ("light 3", "lit 3 out ."), ("light 0", "lit 0 1 2 out ."),
                    ("seeds", "0 3"), ("burning", "0 1 2 3"), ("cold", "4"), ("wants", "1 1 2 1 9"),
                    ("links", "0-1 1-2 2-3"), ("rounds", "0 3 / 1 / 2"), ("block", "4"), ("why 0", "seed"),
                    ("why 1", "round 1 by 0"), ("why 2", "round 2 by 1 3"), ("why 4", "cold")])

    def test_none_at_all_as_a_point(self):
        self.asked([("hearths", "0"), ("seeds", "."), ("burning", "."), ("cold", "."), ("wants", "."), ("links", "."),
                    ("rounds", "."), ("block", "."), ("least", "0"), ("many", "1"), ("lights 0", "."), ("orders", "1"),
                    ("order 0", ".")])

    def test_wants_of_none(self):
        self.asked([("hearths 0 0", "2"), ("rounds", ". / 0 1"), ("why 0", "round 1 by ."), ("burning", "0 1"),
                    ("cold", "."), ("block", "."), ("light 1", "lit . out ."), ("rounds", "1 / 0"),
                    ("douse 1", "lit . out .")])

    def test_block(self):
        self.asked([("hearths 1 1 1 1", "4"), ("link 0 1", "lit . out ."), ("link 2 3", "lit . out ."),
                    ("block", "2 3"), ("light 3", "lit 2 3 out ."), ("block", "0 1"), ("light 0", "lit 0 1 out ."),
                    ("block", ".")])

    def test_least(self):
        self.asked([("hearths 1 1 1", "3"), ("least", "3"), ("many", "1"), ("lights 0", "0 1 2"),
                    ("link 0 1", "lit . out ."), ("least", "2"), ("many", "2"), ("lights 0", "0 2"),
                    ("lights 1", "1 2"), ("lights 2", "refused NoSuch"), ("light 0", "lit 0 1 out ."), ("least", "2"),
                    ("many", "2")])

    def test_orders(self):
        self.asked([("hearths 1 1 1", "3"), ("orders", "1"), ("order 0", "."), ("link 0 1", "lit . out ."),
                    ("link 0 2", "lit . out ."), ("light 0", "lit 0 1 2 out ."), ("orders", "2"), ("order 0", "1 2"),
                    ("order 1", "2 1"), ("order 2", "refused NoSuch")])

    def test_several_hearths_in_one_sheet(self):
        self.asked([("hearths 1 1", "2"), ("link 0 1", "lit . out ."), ("light 1", "lit 0 1 out ."),
                    ("back", "lit . out 0 1"), ("hearths 0", "1"), ("links", "."), ("seeds", "."), ("burning", "0"),
                    ("back", "refused NoSuch"), ("again", "refused NoSuch"), ("hearths 1 1", "2"), ("links", ".")])

    def test_without_signs(self):
        self.assertEqual(answered(""), "refused NoText")
        self.assertEqual(answered("\n"), "refused NoText\nrefused NoText")
        self.assertEqual(answered("hearths 2\n"), "1\nrefused NoText")
        self.assertEqual(answered("hearths 2\n\nwants"), "1\nrefused NoText\n2")

    def test_one_row_for_each(self):
        for sheet in ("", "hearths", BEGIN, BEGIN + ALL, "\n" * 79, BEGIN + "rounds\n" * 70):
            self.assertIs(type(answered(sheet)), str)
            self.assertEqual(len(rows_of(sheet)), len(sheet.split("\n")))
            self.assertEqual(answered(sheet), answered(sheet))

    def test_beside_a_keeper(self):
        for turn, web in enumerate(mixed_webs()[:12]):
            self.follow(web, mixed_deeds(len(web[0]), 20, turn))

    def follow(self, web, deeds):
        keeper = Keeper(made_web(web[0], []))
        pairs = [("hearths " + written(web[0]), str(len(web[0])))]
        for deed in [("link",) + link for link in web[1]] + deeds:
            pairs.append((" ".join(str(part) for part in deed), self.deed_answer(keeper, deed)))
        pairs += self.asks(keeper)
        self.asked(pairs)

    def deed_answer(self, keeper, deed):
        try:
            change = {"back": keeper.back, "again": keeper.again}.get(deed[0], lambda: keeper.do(deed))()
            return f"lit {written(change[0])} out {written(change[1])}"
        except HearthError as refusal:
            return "refused " + type(refusal).__name__

    def asks(self, keeper):
        web, seeds, burning = keeper.web_now(), keeper.seeds_now(), keeper.burning()
        links = " ".join(f"{one}-{other}" for one, other in web[1]) or "."
        pairs = [("seeds", written(seeds)), ("burning", written(burning)), ("wants", written(web[0])), ("links", links),
                 ("cold", written([k for k in range(len(web[0])) if k not in burning])),
                 ("rounds", " / ".join(written(lit) for lit in rounds(web, seeds))),
                 ("block", written(cold_paper(web, seeds) or ()))]
        for hearth in range(len(web[0])):
            cause = keeper.cause_of(hearth)
            asked = "cold" if cause is None else f"round {cause[0]} by {written(cause[1])}"
            pairs.append((f"why {hearth}", "seed" if cause == (0, ()) else asked))
        least, many = all_least(web), order_many(web, seeds)
        pairs += [("least", str(len(least[0]))), ("many", str(len(least))), ("orders", str(many))]
        pairs += [(f"lights {k}", written(least[k])) for k in (0, len(least) - 1)]
        return pairs + [(f"order {k}", written(order_numbered(web, seeds, k))) for k in (0, many - 1)]


class Refused(unittest.TestCase):
    def refused(self, row, name, begin=BEGIN):
        """The row is refused so, and changes nothing."""
        self.assertEqual(last(begin + row), "refused " + name, row)
        changed = rows_of(begin + "light 2\nlight 0\nback\n" + row + "\n" + ALL + "\nagain\n" + ALL)
        plain = rows_of(begin + "light 2\nlight 0\nback\n" + ALL + "\nagain\n" + ALL)
        place = len(begin.split("\n")) + 2
        self.assertEqual(changed[:place] + changed[place + 1:], plain, row)

    def test_strange_words(self):
        for row in ("hearth", "Light 0", "LIGHT 0", "lights", "seed", "whys 0", "0", "1 2", ".", "-", "light,0",
                    "light0", "light_0", "~", "refused NoText", "do 1", "rounds.", "web", "hearthss 1"):
            self.refused(row, "NoText")

    def test_other_counts_of_numbers(self):
        for word in ALONE:
            for row in (word + " 0", word + " 0 1"):
                self.refused(row, "NoText")
        for word in WITH_ONE:
            for row in (word, word + " 0 1", word + " 0 1 2"):
                self.refused(row, "NoText")
        for word in WITH_TWO:
            for row in (word, word + " 0", word + " 0 1 2"):
                self.refused(row, "NoText")

    def test_blanks(self):
        for row in ("light  0", " light 0", "light 0 ", "want 0  5", "want  0 5", " ", "  ", " seeds", "seeds ",
                    "seeds  ", "hearths ", " hearths", "hearths  1", "hearths 1 ", "hearths 1  2"):
            self.refused(row, "NoText")

    def test_numbers_not_so_written(self):
        for number in ("00", "01", "007", "+1", "-1", "-0", "1.0", "1e1", "x", "0x1", "1_0", ".", "one", "1,", "1-2"):
            for row in ("light " + number, "why " + number, "want 0 " + number, "want " + number + " 5",
                        "lights " + number, "hearths " + number, "hearths 1 " + number, "link 0 " + number):
                self.refused(row, "NoText")

    def test_sixty_figures_and_more(self):
        for row, name in (("light", "BadDeed"), ("want 0", "BadDeed"), ("link 0", "BadDeed"), ("why", "NoSuch"),
                          ("lights", "NoSuch"), ("order", "NoSuch"), ("hearths", "BadWeb"), ("hearths 1", "BadWeb")):
            self.refused(row + " " + "9" * 60, name)
            self.refused(row + " " + "9" * 61, "NoText")
            self.refused(row + " 1" + "0" * 60, "NoText")
            self.refused(row + " 0" + "9" * 59, "NoText")

    def test_a_row_without_signs(self):
        self.refused("", "NoText")

    def test_bad_webs(self):
        for row in ("hearths 61", "hearths 1 1 61", "hearths" + " 1" * 41, "hearths" + " 0" * 96):
            self.refused(row, "BadWeb")

    def test_bad_deeds(self):
        for row in ("light 3", "douse 1", "douse 3", "want 0 1", "want 0 61", "want 3 1", "link 0 1", "link 1 0",
                    "link 1 1", "link 0 3", "cut 0 2", "cut 2 0", "cut 1 1", "cut 1 3"):
            self.refused(row, "BadDeed")
        self.assertEqual(last(BEGIN + "light 1\nlight 1"), "refused BadDeed")

    def test_none_such(self):
        for row in ("why 3", "why 40", "lights 3", "order 1"):
            self.refused(row, "NoSuch")
        self.assertEqual(last("hearths 1\nback"), "refused NoSuch")
        self.assertEqual(last("hearths 1\nagain"), "refused NoSuch")
        self.assertEqual(last("hearths 1\nlight 0\nback\nback"), "refused NoSuch")
        self.assertEqual(last("hearths 1\nlight 0\nagain"), "refused NoSuch")
        self.assertEqual(last("hearths 1\nlight 0\nback\nlight 0\nagain"), "refused NoSuch")

    def test_too_many(self):
        great = "hearths" + " 1" * 13 + "\n"
        for row in ("least", "many", "lights 0", "lights 99"):
            self.refused(row, "TooMany", great)
        self.assertEqual(last("hearths" + " 1" * 12 + "\nleast"), "12")
        self.assertEqual(last(great + "orders"), "1")
        self.assertEqual(rows_of("hearths" + " 0" * 13 + "\norders\norder 0\norder 99")[1:], ["refused TooMany"] * 3)
        self.assertEqual(rows_of("hearths" + " 0" * 12 + "\norders\norder 479001599")[1:],
                         ["479001600", "11 10 9 8 7 6 5 4 3 2 1 0"])
        self.assertEqual(last("hearths" + " 0" * 12 + "\norder 479001600"), "refused NoSuch")

    def test_ahead_of_the_first_hearths(self):
        rows = list(ALONE) + [word + " 0" for word in WITH_ONE] + [word + " 0 1" for word in WITH_TWO]
        rows += ["", " ", "light", "hearths x", "strange"]
        for row in rows:
            self.assertEqual(answered(row), "refused NoText")
            self.assertEqual(answered(row + "\nhearths 1\nwants"), "refused NoText\n1\n1")
            self.assertEqual(answered("hearths 61\n" + row), "refused BadWeb\nrefused NoText")
            self.assertEqual(answered("hearths 01\n" + row), "refused NoText\nrefused NoText")


if __name__ == "__main__":
    unittest.main()
