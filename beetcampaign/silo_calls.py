"""The calls that speak of the silo and of sales."""

from beetcampaign.refusals import ABSENT, FULL, IMPOSSIBLE, NOTHING, WRONG
from beetcampaign.silo import Sale

MOST_HOLDS = 100000000
MOST_SALES = 10
MOST_ORDERED = 1000000
MOST_PRICE = 100000
LAST_DUE_DAY = 1000


def set_silo(works, cap):
    if cap > MOST_HOLDS:
        return [WRONG]
    silo = works.silo
    if silo.stored > cap:
        return [FULL]
    before = silo.most
    silo.most = cap
    return [before]


def tell_stored(works):
    return [works.silo.stored, works.silo.most, works.silo.sold]


def add_sale(works, kg, price, due):
    if kg < 1 or kg > MOST_ORDERED or price > MOST_PRICE or due > LAST_DUE_DAY:
        return [WRONG]
    if len(works.sales) == MOST_SALES:
        return [FULL]
    works.sales.append(Sale(kg, price, due))
    return [len(works.sales) - 1]


def cancel_sale(works, o):
    if o >= len(works.sales):
        return [ABSENT]
    sale = works.sales[o]
    if not sale.is_wanting():
        return [NOTHING]
    sale.called_off = True
    return [sale.wanted()]


def tell_sales(works):
    wanting = works.wanting_sales()
    return [len(wanting)] + wanting


def tell_sale(works, o):
    if o >= len(works.sales):
        return [ABSENT]
    sale = works.sales[o]
    return [int(sale.called_off), sale.kilograms, sale.price, sale.due_day, sale.sent]


def send_sale(works, o, kg):
    if o >= len(works.sales):
        return [ABSENT]
    sale = works.sales[o]
    if not sale.is_wanting():
        return [NOTHING]
    if kg == 0 or kg > sale.wanted():
        return [WRONG]
    if works.silo.stored < kg:
        return [IMPOSSIBLE]
    cents = works.silo.send_for(sale, kg)
    return [cents, sale.wanted()]


def tell_late(works):
    late = [o for o in works.wanting_sales() if works.sales[o].due_day < works.day]
    return [len(late)] + late


def tell_owed(works):
    return [sum([works.sales[o].wanted() for o in works.wanting_sales()])]


# Behind each call's number: what answers it, how many whole numbers it has, whether a row follows.
SILO_CALLS = {
    58: (set_silo, 1, False),
    59: (tell_stored, 0, False),
    60: (add_sale, 3, False),
    61: (cancel_sale, 1, False),
    62: (tell_sales, 0, False),
    63: (tell_sale, 1, False),
    64: (send_sale, 2, False),
    65: (tell_late, 0, False),
    66: (tell_owed, 0, False),
}
