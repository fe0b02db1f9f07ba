"""Things sold to bidders who say what they give for each set of things."""

MOST_BIDDERS = 8
MOST_THINGS = 6


def best(n, m, v):
    """0 and what a best way is worth; or -2 or -3 alone."""
    code = refusal_or_zero(n, m, v)
    if code != 0:
        return [code]
    return [0, best_worth(n, m, v)]


def pay(n, m, v):
    """0 and what all pay together with a best way; or -2 or -3 alone."""
    code = refusal_or_zero(n, m, v)
    if code != 0:
        return [code]
    return [0, paid_by_all(n, m, v)]


def refusal_or_zero(n, m, v):
    """The refusal that's due first, or 0 if none is."""
    # Sizes are looked at first: where they don't fit, v is empty and 2 to the power m may be huge.
    if not sizes_fit(n, m):
        return -2
    if some_give_for_no_things(n, m, v):
        return -3
    return 0


def sizes_fit(n, m):
    """Whether n bidders and m things are within the ranges."""
    return 1 <= n and n <= MOST_BIDDERS and 1 <= m and m <= MOST_THINGS


def some_give_for_no_things(n, m, v):
    """Whether some bidder gives something for the set without things."""
    sets = count_sets(m)
    for bidder in range(n):
        if v[bidder * sets] != 0:
            return True
    return False


def count_sets(m):
    """How many sets of m things there are, the one without things among them."""
    sets = 1
    for thing in range(m):
        sets = sets * 2
    return sets


def best_worth(n, m, v):
    """What a best way is worth, where nothing is refused."""
    sets = count_sets(m)
    # Before any bidder has come, all things are kept by none, and that is worth 0.
    worths = [0 for offered in range(sets)]
    for bidder in range(n):
        start = bidder * sets
        worths = with_bidder(worths, v[start:start + sets])
    return worths[sets - 1]


def with_bidder(worths, bids):
    """For each set, what sharing it out is worth once the bidder with these bids has come too.

    worths[a] is what sharing out set a among the bidders before is worth.
    """
    return [best_split(worths, bids, offered) for offered in range(len(worths))]


def best_split(worths, bids, offered):
    """The most that set offered is worth, a part to the new bidder and the rest to those before."""
    most = 0
    for part in range(offered + 1):
        if (offered & part) == part:
            most = max(most, worths[offered - part] + bids[part])
    return most


def paid_by_all(n, m, v):
    """What all pay together with a best way, where nothing is refused."""
    without_each = sum([best_worth(n, m, without_bids_of(bidder, m, v)) for bidder in range(n)])
    # What the others give, over all bidders, counts each gift of the way n - 1 times;
    # so it hangs on the way's worth alone, and no best way has to be found.
    given_by_others = (n - 1) * best_worth(n, m, v)
    return without_each - given_by_others


def without_bids_of(bidder, m, v):
    """A copy of v in which the bidder gives nothing for every set."""
    sets = count_sets(m)
    start = bidder * sets
    return v[:start] + [0 for bid in range(sets)] + v[start + sets:]
