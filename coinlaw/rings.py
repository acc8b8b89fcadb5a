"""Whether rates earn by a ring, or by which prices they don't."""

from coinlaw.fractions import is_fraction, times
from coinlaw.kinds import is_tuple_of
from coinlaw.rates import refuse_rules_and_day, standing_rate, standing_rates
from coinlaw.roads import all_rates, is_road
from coinlaw.rules import codes_of


def earns(rules, day):
    """("ring", road), along which rates multiplied are more than 1, or ("prices", prices)."""
    refuse_rules_and_day(rules, day)
    homes = roads_home(rules, day)
    prices = {code: all_rates(rules, day, homes[code]) for code in homes}
    for one, other, standing in standing_rates(rules, day):
        if prices[one] != times(standing, prices[other]):
            return "ring", earning_way_about(rules, day, ring_of(homes[one], homes[other]))
    return "prices", tuple([prices[code] for code in codes_of(rules)])


def roads_home(rules, day):
    """For each code the codes from it to the least one that rates tie it to, both among them."""
    homes = {}
    for code in codes_of(rules):
        if code not in homes:
            homes[code] = (code,)
            lead_home(rules, day, homes, code)
    return homes


def lead_home(rules, day, homes, code):
    """Gives each code that is tied to this one, and has no road home yet, one by way of it."""
    for other in codes_of(rules):
        if other not in homes and standing_rate(rules, day, other, code) is not None:
            homes[other] = (other,) + homes[code]
            lead_home(rules, day, homes, other)


def ring_of(home, other_home):
    """From the first code of home to that of the other one, along this to where both meet, and back along home."""
    meeting = [code for code in other_home if code in home][0]
    there = other_home[:other_home.index(meeting)]
    back = home[:home.index(meeting) + 1]
    return home[:1] + there + back[::-1]


def earning_way_about(rules, day, ring):
    """The ring, or it turned about where it loses."""
    return ring if is_more(all_rates(rules, day, ring)) else ring[::-1]


def is_more(product):
    """Whether a fraction is more than 1."""
    return product[0] > product[1]


def shows(rules, day, thing):
    """Whether thing is a ring that earns, or prices by which no ring does."""
    refuse_rules_and_day(rules, day)
    if not is_tuple_of(thing, 2, 2):
        return False
    word, shown = thing
    if word == "ring":
        return is_earning_ring(rules, day, shown)
    return word == "prices" and are_prices(rules, day, shown)


def is_earning_ring(rules, day, thing):
    if not is_road(rules, day, thing) or thing[0] != thing[-1]:
        return False
    return len(set(thing)) == len(thing) - 1 and is_more(all_rates(rules, day, thing))


def are_prices(rules, day, thing):
    codes = codes_of(rules)
    if not is_tuple_of(thing, len(codes), len(codes)) or not all([is_fraction(price) for price in thing]):
        return False
    prices = dict(zip(codes, thing))
    right = [prices[one] == times(standing, prices[other]) for one, other, standing in standing_rates(rules, day)]
    return all([top > 0 for top, bottom in thing]) and all(right)
