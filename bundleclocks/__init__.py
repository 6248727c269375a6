"""A sale of bundles by clocks and sealed bids, with worths, winners and prices shown."""
