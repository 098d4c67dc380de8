"""Rows of whole numbers of which none is a sum of fractions of the others.

Such rows are kept as leads: a dict from places to rows, each of them the only one that is not 0 there.
"""

from fewsumlots.sets import divisor_of_all


def lessened(row):
    """Tell a row divided by the greatest number that divides all of it."""
    divisor = divisor_of_all([abs(number) for number in row])
    return [number // divisor for number in row] if divisor else row


def cleared(row, lead, place):
    """Tell what is left of a row, some times over, when a lead is taken from it such that it is 0 there."""
    return lessened([lead[place] * x - row[place] * y for x, y in zip(row, lead)])


def led_by_one_more(leads, row):
    """Tell the leads with one more row; None where it is a sum of fractions of them."""
    for place in leads:
        # Other leads are 0 at this place, so what was cleared stays so.
        if row[place]:
            row = cleared(row, leads[place], place)
    places = [place for place, number in enumerate(row) if number]
    if not places:
        return None
    told = {place: cleared(leads[place], row, places[0]) for place in leads}
    told[places[0]] = row
    return told


def are_free(rows):
    """Tell whether none of some rows is a sum of fractions of the others."""
    leads = {}
    for row in rows:
        leads = led_by_one_more(leads, row)
        if leads is None:
            return False
    return True


def row_against(leads, many, free):
    """Tell a row that comes to 0 with each lead, is not 0 at one free place, and 0 at the other ones."""
    whole = 1
    for place in leads:
        whole *= leads[place][place]
    row = [0] * many
    row[free] = whole
    for place in leads:
        lead = leads[place]
        row[place] = -lead[free] * (whole // lead[place])
    return lessened(row)


def rows_against(leads, many):
    """Tell as many free rows as can be of so many numbers that come to 0, place by place, with each lead."""
    return [row_against(leads, many, place) for place in range(many) if place not in leads]
