"""Bags, and who's aboard: bagsaboard.airport answers the calls."""
