"""Keepers: webs with seeds to which deeds are done, taken back and done again."""

from kindleweb.causes import causes
from kindleweb.errors import BadDeed, NoSuch
from kindleweb.spread import burnt
from kindleweb.webs import MOST_WANTED, is_hearth, made_set, without

DEED_NUMBERS = {"light": 1, "douse": 1, "want": 2, "link": 2, "cut": 2}


def deed_done(web, seeds, deed):
    chosen = made_set(web, seeds)
    told = told_deed(deed)
    if told[0] == "light" or told[0] == "douse":
        return (web, seeds_behind(web, chosen, told))
    if told[0] == "want":
        return ((wants_behind(web, told), web[1]), chosen)
    return ((web[0], links_behind(web, told)), chosen)


def told_deed(deed):
    if DEED_NUMBERS.get(deed[0]) != len(deed) - 1:
        raise BadDeed("a deed is one of five words with its numbers")
    if deed[0] == "link" or deed[0] == "cut":
        return (deed[0], min(deed[1:]), max(deed[1:]))
    return tuple(deed)


def seeds_behind(web, seeds, deed):
    hearth = deed[1]
    if not is_hearth(web, hearth):
        raise BadDeed("this is no hearth")
    if (hearth in seeds) == (deed[0] == "light"):
        raise BadDeed("the deed changes nothing")
    if deed[0] == "light":
        return tuple(sorted(seeds + (hearth,)))
    return without(seeds, [hearth])


def wants_behind(web, deed):
    hearth = deed[1]
    want = deed[2]
    if not is_hearth(web, hearth) or want < 0 or want > MOST_WANTED:
        raise BadDeed("this is no hearth, or no want")
    if web[0][hearth] == want:
        raise BadDeed("the deed changes nothing")
    return web[0][:hearth] + (want,) + web[0][hearth + 1:]


def links_behind(web, deed):
    link = deed[1:]
    if not is_hearth(web, link[0]) or not is_hearth(web, link[1]) or link[0] == link[1]:
        raise BadDeed("these are no two hearths")
    if (link in web[1]) == (deed[0] == "link"):
        raise BadDeed("the deed changes nothing")
    if deed[0] == "link":
        return tuple(sorted(web[1] + (link,)))
    return without(web[1], [link])


class Keeper:
    def __init__(self, web):
        # Each step is a deed, with the web and the seeds behind it; the first one is the begin.
        self.standing = [(None, web, ())]
        self.undone = []

    def web_now(self):
        return self.standing[-1][1]

    def seeds_now(self):
        return self.standing[-1][2]

    def burning(self):
        return burnt(self.web_now(), self.seeds_now())

    def cause_of(self, hearth):
        if not is_hearth(self.web_now(), hearth):
            raise NoSuch("this is no hearth")
        return causes(self.web_now(), self.seeds_now())[hearth]

    def deeds(self):
        return [step[0] for step in self.standing[1:]]

    def do(self, deed):
        behind = deed_done(self.web_now(), self.seeds_now(), deed)
        before = self.burning()
        self.standing.append((told_deed(deed), behind[0], behind[1]))
        self.undone = []
        return self.changes_since(before)

    def back(self):
        if len(self.standing) < 2:
            raise NoSuch("no deed stands")
        before = self.burning()
        self.undone.append(self.standing.pop())
        return self.changes_since(before)

    def again(self):
        if not self.undone:
            raise NoSuch("no deed was taken back")
        before = self.burning()
        self.standing.append(self.undone.pop())
        return self.changes_since(before)

    def changes_since(self, before):
        now = self.burning()
        return (without(now, before), without(before, now))
