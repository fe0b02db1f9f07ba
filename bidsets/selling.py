"""Things sold to bidders who say what they give for sets of things, or for things alone."""

MOST_BIDDERS = 8
MOST_THINGS = 6
# Where everyone wants one thing alone, bidders and things have the same bound.
MOST_ALONE = 16


def best(n, m, v):
    """0 and what a best way is worth; or -2 or -3 alone."""
    code = refusal_or_zero(n, m, v)
    if code != 0:
        return [code]
    return [0, best_worth(n, m, v)]


def pay(n, m, v):
    """0 and what all pay together with a best way; or -2 or -3 alone."""
    code = refusal_or_zero(n, m, v)
    if code != 0:
        return [code]
    return [0, paid_by_all(n, m, v)]


def prices(n, m, v):
    """0 and the least prices of m things, where everyone wants one alone; or -2 alone."""
    if not sizes_fit(n, m, MOST_ALONE, MOST_ALONE):
        return [-2]
    return [0] + least_prices(n, m, v)


def refusal_or_zero(n, m, v):
    """The refusal that's due first, or 0 if none is."""
    # Sizes are looked at first: where they don't fit, v is empty and 2 to the power m may be huge.
    if not sizes_fit(n, m, MOST_BIDDERS, MOST_THINGS):
        return -2
    if some_give_for_no_things(n, m, v):
        return -3
    return 0


def sizes_fit(n, m, most_bidders, most_things):
    """Whether there is a bidder and a thing, and no more of them than these."""
    return 1 <= n and n <= most_bidders and 1 <= m and m <= most_things


def some_give_for_no_things(n, m, v):
    """Whether some bidder gives something for the set without things."""
    sets = count_sets(m)
    for bidder in range(n):
        if v[bidder * sets] != 0:
            return True
    return False


def count_sets(m):
    """How many sets of m things there are, the one without things among them."""
    sets = 1
    for thing in range(m):
        sets = sets * 2
    return sets


def best_worth(n, m, v):
    """What a best way is worth, where nothing is refused."""
    sets = count_sets(m)
    # Before any bidder has come, all things are kept by none, and that is worth 0.
    worths = [0 for offered in range(sets)]
    for bidder in range(n):
        start = bidder * sets
        worths = with_bidder(worths, v[start:start + sets])
    return worths[sets - 1]


def with_bidder(worths, bids):
    """For each set, what sharing it out is worth once the bidder with these bids has come too.

    worths[a] is what sharing out set a among the bidders before is worth.
    """
    return [best_split(worths, bids, offered) for offered in range(len(worths))]


def best_split(worths, bids, offered):
    """The most that set offered is worth, a part to the new bidder and the rest to those before."""
    most = 0
    for part in range(offered + 1):
        if (offered & part) == part:
            most = max(most, worths[offered - part] + bids[part])
    return most


def paid_by_all(n, m, v):
    """What all pay together with a best way, where nothing is refused."""
    without_each = sum([best_worth(n, m, without_bids_of(bidder, m, v)) for bidder in range(n)])
    # What the others give, over all bidders, counts each gift of the way n - 1 times;
    # so it hangs on the way's worth alone, and no best way has to be found.
    given_by_others = (n - 1) * best_worth(n, m, v)
    return without_each - given_by_others


def without_bids_of(bidder, m, v):
    """A copy of v in which the bidder gives nothing for every set."""
    sets = count_sets(m)
    start = bidder * sets
    return v[:start] + [0 for bid in range(sets)] + v[start + sets:]


def least_prices(n, m, v):
    """The least prices, where nothing is refused."""
    # With a spare thing for each bidder, for which everyone gives 0, having nothing is having
    # a spare one; so everybody has a thing, and none that they'd rather not have.
    spares = [0 for spare in range(n)]
    bids = [v[bidder * m:bidder * m + m] + spares for bidder in range(n)]
    holders = best_holders(bids, m + n)
    # Prices at which all is well for some having are so for each best having: any will do.
    # No price is below 0, and holders who'd gain by another thing put up its price, no further.
    chains = best_chains(bids, holders, [0 for thing in holders])
    return chains[0][:m]


def best_holders(bids, things):
    """Who holds each thing, None if nobody, with a thing for every bidder and all worth most."""
    holders = [None for thing in range(things)]
    for newcomer in range(len(bids)):
        holders = with_newcomer(bids, holders, newcomer)
    return holders


def with_newcomer(bids, holders, newcomer):
    """The best holders once the newcomer has come too, from the best ones before."""
    chains = best_chains(bids, holders, bids[newcomer])
    gains = chains[0]
    left = chains[1]
    moved = list(holders)
    thing = best_unheld(holders, gains)
    # The chain is walked from its end: each thing on it goes to who held the one before.
    while left[thing] is not None:
        moved[thing] = holders[left[thing]]
        thing = left[thing]
    moved[thing] = newcomer
    return moved


def best_unheld(holders, gains):
    """The thing that's gained most by, of those that nobody holds."""
    unheld = [thing for thing in range(len(holders)) if holders[thing] is None]
    return max(unheld, key=lambda one: gains[one])


def best_chains(bids, holders, starts):
    """For each thing, the most that a chain of moves up to it gains, and the thing left for it.

    A chain begins at any thing, with what starts has for it, and None is left for that.
    Who holds the thing a chain has come to may leave it for another, and so on; that gains
    what they give for the other, less what they give for the one they leave.
    """
    gains = list(starts)
    left = [None for thing in starts]
    # Holders are best, so moves in a circle gain nothing: a best chain moves each bidder once at most.
    for step in range(len(bids)):
        for thing in range(len(holders)):
            if holders[thing] is not None:
                move_on(bids[holders[thing]], thing, gains, left)
    return (gains, left)


def move_on(wishes, thing, gains, left):
    """Let who has these wishes leave the thing for each other one, where a better chain comes of it."""
    for other in range(len(wishes)):
        gain = gains[thing] - wishes[thing] + wishes[other]
        if gain > gains[other]:
            gains[other] = gain
            left[other] = thing
