"""Handpiles: cards laid on piles from a hand."""
