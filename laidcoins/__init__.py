"""Coins laid one by one, each so that the mean is no worse."""
