"""What the tests share: inputs, and answers by trying all ways, or all prices and havings."""

import itertools

MOST = 4294967295
LOWEST = -2147483648
HIGHEST = 2147483647


class FixedList(list):
    """A list that can't be changed, not for a while either."""

    def refuse(self, *args, **kwargs):
        raise AssertionError("what is handed in was changed")

    append = clear = extend = insert = pop = remove = reverse = sort = refuse
    __setitem__ = __delitem__ = __iadd__ = __imul__ = refuse


def all_ways(n, m):
    """Each way as the list of the sets that the bidders are given."""
    # Each thing goes to a bidder or to none (n stands for none).
    for owners in itertools.product(range(n + 1), repeat=m):
        yield [sum(2 ** thing for thing in range(m) if owners[thing] == bidder) for bidder in range(n)]


def gifts(way, m, v):
    """What each bidder gives for their set in this way."""
    return [v[bidder * 2 ** m + held] for bidder, held in enumerate(way)]


def worth_by_trying_all(n, m, v):
    return max(sum(gifts(way, m, v)) for way in all_ways(n, m))


def payments_by_trying_all(n, m, v):
    """For each best way, what each bidder pays, by the document's own words."""
    worth = worth_by_trying_all(n, m, v)
    without = []
    for bidder in range(n):
        silent = list(v)
        silent[bidder * 2 ** m:(bidder + 1) * 2 ** m] = [0] * 2 ** m
        without.append(worth_by_trying_all(n, m, silent))
    found = []
    for way in all_ways(n, m):
        given = gifts(way, m, v)
        if sum(given) == worth:
            found.append([without[bidder] - (worth - given[bidder]) for bidder in range(n)])
    return found


def all_havings(n, m):
    """Each having as the list of what the bidders have: a thing, or None for nothing."""
    for having in itertools.product([None] + list(range(m)), repeat=n):
        things = [thing for thing in having if thing is not None]
        if len(things) == len(set(things)):
            yield list(having)


def all_is_well(m, v, priced, having):
    """Whether it is, by the document's own words."""
    for bidder, has in enumerate(having):
        left_over = [v[bidder * m + thing] - priced[thing] for thing in range(m)]
        own = 0 if has is None else left_over[has]
        if own < 0 or own < max(left_over):
            return False
    return all(priced[thing] == 0 for thing in range(m) if thing not in having)


def well_by_trying_all(n, m, v):
    """All prices at which all is well for some having, with all such havings."""
    havings = list(all_havings(n, m))
    found = []
    # Nobody has a thing that's priced above what anybody gives, so no price is higher.
    for priced in itertools.product(range(max(v) + 1), repeat=m):
        well = [having for having in havings if all_is_well(m, v, priced, having)]
        if well:
            found.append((list(priced), well))
    return found


def least_by_trying_all(n, m, v):
    """The least prices, with all havings for which all is well at them."""
    found = well_by_trying_all(n, m, v)
    least = [(priced, well) for priced, well in found
             if all(priced[thing] <= other[thing] for other, ignored in found for thing in range(m))]
    if len(least) != 1:
        raise AssertionError("no least prices, or several", n, m, v)
    return least[0]


def sets_from_things(n, m, v):
    """For best and pay, what bidders give for each set who want one thing of it at the most."""
    bids = []
    for bidder in range(n):
        for held in range(2 ** m):
            bids.append(max([v[bidder * m + thing] for thing in range(m) if held >> thing & 1], default=0))
    return bids


def with_empty_sets(n, m, values):
    """v with 0 for each bidder's set without things and the values for all other sets."""
    left = list(values)
    per_bidder = 2 ** m - 1
    v = []
    for bidder in range(n):
        v += [0] + left[bidder * per_bidder:(bidder + 1) * per_bidder]
    return v


def numbers_from(seed, how_many, below):
    """The same numbers on each run and each Python."""
    numbers = []
    state = seed
    for step in range(how_many):
        state = (state * 6364136223846793005 + 1442695040888963407) % 2 ** 64
        numbers.append((state >> 20) % below)
    return numbers
