"""Exact Markov chains with a few states, in discrete or continuous time."""
