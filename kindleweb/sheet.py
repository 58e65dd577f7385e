"""Sheets: rows that are done in a keeper or asked of it, and answered row by row."""

from kindleweb.blocks import cold_paper
from kindleweb.cold import cold_rest
from kindleweb.errors import BadDeed, BadWeb, NoSuch, NoText, TooMany
from kindleweb.keeper import DEED_NUMBERS, Keeper
from kindleweb.least import least_count, least_many, least_numbered
from kindleweb.notes import links_row, numbers_row, read_figures
from kindleweb.orders import order_many, order_numbered
from kindleweb.spread import rounds
from kindleweb.webs import made_web


def change_row(change):
    lit = numbers_row(change[0])
    out = numbers_row(change[1])
    return f"lit {lit} out {out}"


def back_row(keeper):
    return change_row(keeper.back())


def again_row(keeper):
    return change_row(keeper.again())


def seeds_row(keeper):
    return numbers_row(keeper.seeds_now())


def burning_row(keeper):
    return numbers_row(keeper.burning())


def cold_row(keeper):
    return numbers_row(cold_rest(keeper.web_now(), keeper.seeds_now()))


def wants_row(keeper):
    return numbers_row(keeper.web_now()[0])


def web_links_row(keeper):
    return links_row(keeper.web_now()[1])


def rounds_row(keeper):
    return " / ".join([numbers_row(lit) for lit in rounds(keeper.web_now(), keeper.seeds_now())])


def block_row(keeper):
    block = cold_paper(keeper.web_now(), keeper.seeds_now())
    if block is None:
        return numbers_row(())
    return numbers_row(block)


def least_row(keeper):
    return str(least_many(keeper.web_now()))


def many_row(keeper):
    return str(least_count(keeper.web_now()))


def orders_row(keeper):
    return str(order_many(keeper.web_now(), keeper.seeds_now()))


def why_row(keeper, hearth):
    cause = keeper.cause_of(hearth)
    if cause is None:
        return "cold"
    rank = cause[0]
    if rank == 0:
        return "seed"
    by = numbers_row(cause[1])
    return f"round {rank} by {by}"


def lights_row(keeper, number):
    return numbers_row(least_numbered(keeper.web_now(), number))


def order_row(keeper, number):
    return numbers_row(order_numbered(keeper.web_now(), keeper.seeds_now(), number))


ASKED_ALONE = {
    "back": back_row, "again": again_row, "seeds": seeds_row, "burning": burning_row, "cold": cold_row,
    "wants": wants_row, "links": web_links_row, "rounds": rounds_row, "block": block_row, "least": least_row,
    "many": many_row, "orders": orders_row,
}
ASKED_WITH_NUMBER = {"why": why_row, "lights": lights_row, "order": order_row}


def answered(sheet):
    keeper = None
    answers = []
    for row in sheet.split("\n"):
        done = row_done(keeper, row)
        keeper = done[0]
        answers.append(done[1])
    return "\n".join(answers)


def row_done(keeper, row):
    # A pair of the keeper behind the row and the answer to it.
    try:
        return row_followed(keeper, row)
    except NoText:
        return (keeper, "refused NoText")
    except BadWeb:
        return (keeper, "refused BadWeb")
    except BadDeed:
        return (keeper, "refused BadDeed")
    except NoSuch:
        return (keeper, "refused NoSuch")
    except TooMany:
        return (keeper, "refused TooMany")


def row_followed(keeper, row):
    words = row.split(" ")
    numbers = [read_figures(word) for word in words[1:]]
    if words[0] == "hearths":
        return (Keeper(made_web(numbers, [])), str(len(numbers)))
    if keeper is None:
        raise NoText("the first row tells the hearths")
    return (keeper, answer_to(keeper, words[0], numbers))


def answer_to(keeper, word, numbers):
    if word in DEED_NUMBERS and len(numbers) == DEED_NUMBERS[word]:
        return change_row(keeper.do(tuple([word] + numbers)))
    if word in ASKED_ALONE and len(numbers) == 0:
        tell = ASKED_ALONE[word]
        return tell(keeper)
    if word in ASKED_WITH_NUMBER and len(numbers) == 1:
        tell_of = ASKED_WITH_NUMBER[word]
        return tell_of(keeper, numbers[0])
    raise NoText("no row is written so")
