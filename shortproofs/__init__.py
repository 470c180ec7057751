"""Proofs made short: see README.md for how it is called."""
