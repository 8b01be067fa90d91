"""Cornring: a market's book of bids and offers."""
