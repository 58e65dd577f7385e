import unittest

from kindleweb.errors import BadDeed, BadSet, NoSuch
from kindleweb.keeper import Keeper, deed_done
from kindleweb.webs import made_web
from tests.samples import FAR, burnt_by_words, knot_web, mixed_webs, ring_web, row_web, sets_of, small_webs, wrong_sets

EMPTY = ((), ())
WEB = made_web([0, 1, 2, 60], [(0, 1), (0, 2), (2, 3)])


def all_deeds(many):
    """Deeds with hearths of a web and with numbers that are none, wants within and beyond the bounds."""
    numbers = list(range(-1, many + 1)) + [FAR, -FAR]
    deeds = [(word, h) for word in ("light", "douse") for h in numbers]
    deeds += [("want", h, n) for h in numbers for n in (-1, 0, 1, 2, 3, 60, 61, FAR, -FAR)]
    return deeds + [(word, a, b) for word in ("link", "cut") for a in numbers for b in numbers]


def done_by_words(web, seeds, deed):
    """The pair behind a deed by [11.1], or None where it may not be done."""
    wants, links, lit = list(web[0]), set(web[1]), set(seeds)
    word, hearth, last = deed[0], deed[1], deed[-1]
    if hearth not in range(len(wants)):
        return None
    if word == "light":
        lit.add(hearth)
    if word == "douse":
        lit.discard(hearth)
    if word == "want":
        if not 0 <= last <= 60:
            return None
        wants[hearth] = last
    if word in ("link", "cut"):
        if last not in range(len(wants)) or last == hearth:
            return None
        pair = (min(hearth, last), max(hearth, last))
        (links.add if word == "link" else links.discard)(pair)
    behind = ((tuple(wants), tuple(sorted(links))), tuple(sorted(lit)))
    return None if behind == (web, tuple(seeds)) else behind


def set_burning(web, seeds):
    return tuple(sorted(burnt_by_words(web, seeds)))


def told(keeper):
    return (keeper.web_now(), keeper.seeds_now(), keeper.burning(), keeper.deeds(),
            [keeper.cause_of(k) for k in range(len(keeper.web_now()[0]))])


def mixed_deeds(many, turns, start):
    """Deeds and other words, mixed by a plain sum so that they are the same each time."""
    state = start
    words = ("light", "light", "douse", "want", "want", "link", "link", "cut", "back", "back", "again", "again")
    chosen = []
    for turn in range(turns):
        drawn = []
        for most in (len(words), many, many, 4):
            state = (state * 1103515245 + 12345) % (1 << 31)
            drawn.append((state >> 16) % most)
        word = words[drawn[0]]
        numbers = {"light": drawn[1:2], "douse": drawn[1:2], "want": [drawn[1], drawn[3]], "link": drawn[1:3],
                   "cut": drawn[1:3]}.get(word, [])
        chosen.append((word,) + tuple(numbers))
    return chosen


class DeedDone(unittest.TestCase):
    def test_each_word(self):
        self.assertEqual(deed_done(WEB, (), ("light", 2)), (WEB, (2,)))
        self.assertEqual(deed_done(WEB, [1, 3], ("light", 2)), (WEB, (1, 2, 3)))
        self.assertEqual(deed_done(WEB, (1, 2, 3), ("douse", 2)), (WEB, (1, 3)))
        self.assertEqual(deed_done(WEB, [3], ("douse", 3)), (WEB, ()))
        self.assertEqual(deed_done(WEB, [3], ("want", 3, 0)), (((0, 1, 2, 0), WEB[1]), (3,)))
        self.assertEqual(deed_done(WEB, [3], ("want", 0, 60)), (((60, 1, 2, 60), WEB[1]), (3,)))
        self.assertEqual(deed_done(WEB, (), ("link", 1, 2)), ((WEB[0], ((0, 1), (0, 2), (1, 2), (2, 3))), ()))
        self.assertEqual(deed_done(WEB, (), ("cut", 0, 2)), ((WEB[0], ((0, 1), (2, 3))), ()))

    def test_hearths_of_a_link_in_either_order(self):
        self.assertEqual(deed_done(WEB, (), ("link", 2, 1)), deed_done(WEB, (), ("link", 1, 2)))
        self.assertEqual(deed_done(WEB, (), ("cut", 2, 0)), deed_done(WEB, (), ("cut", 0, 2)))

    def test_may_not_be_done(self):
        wrong = [("light", 1), ("douse", 2), ("light", 4), ("douse", 4), ("light", -1), ("douse", -1), ("light", FAR),
                 ("want", 0, 0), ("want", 3, 60), ("want", 0, -1), ("want", 0, 61), ("want", 4, 1), ("want", -1, 1),
                 ("want", 0, FAR), ("want", -FAR, 1), ("link", 0, 1), ("link", 1, 0), ("link", 1, 1), ("link", 1, 4),
                 ("link", -1, 1), ("link", 4, 1), ("link", 1, -1), ("cut", 1, 2), ("cut", 2, 1), ("cut", 0, 0),
                 ("cut", 0, 4), ("cut", -1, 0), ("cut", FAR, 0), ("cut", 3, -1), ("link", 4, 5), ("cut", 2, -2)]
        for deed in wrong:
            with self.assertRaises(BadDeed, msg=deed):
                deed_done(WEB, (1,), deed)

    def test_no_hearths(self):
        for deed in all_deeds(0):
            with self.assertRaises(BadDeed):
                deed_done(EMPTY, (), deed)

    def test_by_the_words(self):
        for web in small_webs()[::11]:
            for seeds in sets_of(len(web[0]))[::3]:
                for deed in all_deeds(len(web[0])):
                    asked = done_by_words(web, seeds, deed)
                    if asked is None:
                        with self.assertRaises(BadDeed):
                            deed_done(web, seeds, deed)
                    else:
                        behind = deed_done(web, list(seeds), deed)
                        self.assertEqual(behind, asked)
                        self.assertEqual([type(part) for part in (behind,) + behind], [tuple] * 3)
                        self.assertEqual(behind[0], made_web(behind[0][0], behind[0][1]))

    def test_wrong_sets_ahead_of_wrong_deeds(self):
        for seeds in wrong_sets(len(WEB[0])):
            for deed in (("light", 2), ("light", 9), ("want", 0, 61), ("link", 1, 1), ("cut", 1, 3)):
                for handed in (seeds, tuple(seeds)):
                    with self.assertRaises(BadSet):
                        deed_done(WEB, handed, deed)

    def test_seeds_stay(self):
        seeds = [1, 3]
        behind = deed_done(WEB, seeds, ("want", 0, 1))
        self.assertEqual(seeds, [1, 3])
        seeds.clear()
        self.assertEqual(behind[1], (1, 3))


class Keepers(unittest.TestCase):
    def test_begin(self):
        keeper = Keeper(WEB)
        self.assertEqual(told(keeper), (WEB, (), (0, 1), [], [(1, ()), (2, (0,)), None, None]))
        self.assertEqual(told(Keeper(EMPTY)), (EMPTY, (), (), [], []))

    def test_do(self):
        keeper = Keeper(WEB)
        self.assertEqual(keeper.do(("light", 3)), ((2, 3), ()))
        self.assertEqual(keeper.do(("cut", 3, 2)), ((), (2,)))
        self.assertEqual(keeper.do(("want", 2, 1)), ((2,), ()))
        self.assertEqual(keeper.do(("link", 3, 1)), ((), ()))
        self.assertEqual(keeper.do(("douse", 3)), ((), (3,)))
        self.assertEqual(keeper.deeds(), [("light", 3), ("cut", 2, 3), ("want", 2, 1), ("link", 1, 3), ("douse", 3)])
        self.assertEqual(keeper.web_now(), ((0, 1, 1, 60), ((0, 1), (0, 2), (1, 3))))
        self.assertEqual(keeper.seeds_now(), ())
        self.assertEqual(keeper.burning(), (0, 1, 2))

    def test_what_a_deed_lights_goes_out_when_it_is_taken_back(self):
        keeper = Keeper(row_web(3, 1))
        self.assertEqual(keeper.do(("light", 1)), ((0, 1, 2), ()))
        self.assertEqual(keeper.back(), ((), (0, 1, 2)))
        self.assertEqual(keeper.again(), ((0, 1, 2), ()))

    def test_back_and_again(self):
        keeper = Keeper(ring_web(4, 2))
        keeper.do(("light", 0))
        keeper.do(("light", 2))
        self.assertEqual(keeper.back(), ((), (1, 2, 3)))
        self.assertEqual(keeper.back(), ((), (0,)))
        self.assertEqual(keeper.deeds(), [])
        self.assertEqual(keeper.again(), ((0,), ()))
        self.assertEqual(keeper.deeds(), [("light", 0)])
        self.assertEqual(keeper.again(), ((1, 2, 3), ()))
        self.assertEqual(keeper.seeds_now(), (0, 2))

    def test_again_behind_a_do(self):
        keeper = Keeper(ring_web(4, 2))
        keeper.do(("light", 0))
        keeper.do(("light", 1))
        keeper.back()
        keeper.back()
        keeper.again()
        keeper.do(("light", 2))
        with self.assertRaises(NoSuch):
            keeper.again()
        self.assertEqual(keeper.deeds(), [("light", 0), ("light", 2)])
        keeper.back()
        keeper.again()
        self.assertEqual(keeper.seeds_now(), (0, 2))

    def test_again_behind_a_do_that_was_refused(self):
        keeper = Keeper(ring_web(4, 2))
        keeper.do(("light", 0))
        keeper.back()
        with self.assertRaises(BadDeed):
            keeper.do(("douse", 0))
        self.assertEqual(keeper.again(), ((0,), ()))

    def test_none_to_take_back_or_do_again(self):
        for web in (EMPTY, WEB, knot_web(40, 3)):
            keeper = Keeper(web)
            before = told(keeper)
            for call in (keeper.back, keeper.again, keeper.back):
                with self.assertRaises(NoSuch):
                    call()
            self.assertEqual(told(keeper), before)
        keeper = Keeper(WEB)
        keeper.do(("light", 3))
        with self.assertRaises(NoSuch):
            keeper.again()
        keeper.back()
        with self.assertRaises(NoSuch):
            keeper.back()
        self.assertEqual(keeper.again(), ((2, 3), ()))

    def test_what_is_refused_changes_nothing(self):
        keeper = Keeper(WEB)
        keeper.do(("light", 3))
        keeper.do(("light", 1))
        keeper.back()
        before = told(keeper)
        for deed in (("light", 3), ("douse", 0), ("want", 0, 0), ("want", 0, 61), ("link", 0, 1), ("cut", 1, 3)):
            with self.assertRaises(BadDeed):
                keeper.do(deed)
        with self.assertRaises(NoSuch):
            keeper.cause_of(4)
        self.assertEqual(told(keeper), before)
        self.assertEqual(keeper.again(), ((), ()))
        self.assertEqual(keeper.seeds_now(), (1, 3))

    def test_cause_of(self):
        keeper = Keeper(row_web(4, 1))
        self.assertEqual([keeper.cause_of(k) for k in range(4)], [None] * 4)
        keeper.do(("light", 1))
        self.assertEqual([keeper.cause_of(k) for k in range(4)], [(1, (1,)), (0, ()), (1, (1,)), (2, (2,))])
        for number in (-1, 4, FAR, -FAR):
            with self.assertRaises(NoSuch):
                keeper.cause_of(number)
        with self.assertRaises(NoSuch):
            Keeper(EMPTY).cause_of(0)

    def test_two_keepers_beside_one_another(self):
        one = Keeper(WEB)
        other = Keeper(WEB)
        one.do(("light", 3))
        one.do(("want", 0, 5))
        self.assertEqual(told(other), told(Keeper(WEB)))
        with self.assertRaises(NoSuch):
            other.back()
        other.do(("cut", 0, 1))
        one.back()
        with self.assertRaises(NoSuch):
            other.again()
        self.assertEqual(one.deeds(), [("light", 3)])
        self.assertEqual(other.deeds(), [("cut", 0, 1)])

    def test_lists_told_earlier_stay(self):
        keeper = Keeper(WEB)
        keeper.do(("light", 3))
        deeds = keeper.deeds()
        before = told(keeper)
        keeper.do(("light", 1))
        self.assertEqual(deeds, [("light", 3)])
        deeds.append(("light", 2))
        deeds[0] = ("douse", 0)
        self.assertEqual(keeper.deeds(), [("light", 3), ("light", 1)])
        keeper.back()
        self.assertEqual(told(keeper), before)


class Beside(unittest.TestCase):
    """Keepers beside the deeds that stand, done from the begin on by the words of [11.1] and [11.2]."""

    def test_mixed_deeds(self):
        for turn, web in enumerate(mixed_webs()[:20]):
            self.follow(web, mixed_deeds(len(web[0]), 60, turn))

    def follow(self, web, rows):
        keeper = Keeper(web)
        stand, undone = [], []
        now = (web, ())
        for row in rows:
            behind = self.behind(web, now, stand, undone, row)
            call = {"back": keeper.back, "again": keeper.again}.get(row[0], lambda: keeper.do(row))
            if behind is None:
                with self.assertRaises(NoSuch if row[0] in ("back", "again") else BadDeed):
                    call()
            else:
                burned, burns = set_burning(*now), set_burning(*behind)
                change = call()
                self.assertEqual(change, (tuple(k for k in burns if k not in burned),
                                          tuple(k for k in burned if k not in burns)))
                self.one_way(row[0], now, behind, change)
                now = behind
            self.assertEqual(told(keeper)[:4], (now[0], now[1], set_burning(*now), stand))
            fresh = Keeper(web)
            for deed in stand:
                fresh.do(deed)
            self.assertEqual(told(fresh), told(keeper))

    def behind(self, web, now, stand, undone, row):
        if row[0] in ("back", "again"):
            taken, given = (stand, undone) if row[0] == "back" else (undone, stand)
            if not taken:
                return None
            given.append(taken.pop())
            state = (web, ())
            for deed in stand:
                state = done_by_words(state[0], state[1], deed)
            return state
        state = done_by_words(now[0], now[1], row)
        if state is not None:
            undone.clear()
            stand.append(row if row[0] not in ("link", "cut") else (row[0], min(row[1:]), max(row[1:])))
        return state

    def one_way(self, word, now, behind, change):
        """[11.3]: what puts nothing out, and what lights nothing."""
        less = word == "want" and sum(behind[0][0]) < sum(now[0][0])
        more = word == "want" and not less
        if word in ("light", "link") or less:
            self.assertEqual(change[1], ())
        if word in ("douse", "cut") or more:
            self.assertEqual(change[0], ())

    def test_one_way_in_small_webs(self):
        for web in small_webs()[::9]:
            for seeds in sets_of(len(web[0])):
                for deed in all_deeds(len(web[0])):
                    behind = done_by_words(web, seeds, deed)
                    if behind is not None:
                        keeper = Keeper(web)
                        for seed in seeds:
                            keeper.do(("light", seed))
                        self.one_way(deed[0], (web, seeds), behind, keeper.do(deed))


if __name__ == "__main__":
    unittest.main()
