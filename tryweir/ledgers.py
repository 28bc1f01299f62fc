"""Ledgers: which tries' shares made each coin of a run, and which try again each coin paid for."""

from tryweir.runs import coins_made, run_of


def coins_of(run, purse):
    """For each coin of a purse the errands that its shares' tries began."""
    per = run.net[1][purse][2]
    return [tuple(run.puts[purse][coin * per:(coin + 1) * per]) for coin in range(coins_made(run, purse))]


def ledger(net, events):
    """A pair (coins, payments): of each purse its coins, and of each try again that took one (errand, purse, coin)."""
    run = run_of(net, events)
    return ([coins_of(run, purse) for purse in range(len(net[1]))], run.payments)
