"""Ballots with orders: pairs, strongest paths, seats by quotas and transfers."""
