"""Seed: what a nursery's sowings come to, year by year."""
