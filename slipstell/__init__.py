"""Slips of the hand: what a row of letters may have meant."""
