"""Conceptscript: Frege's notation and proofs."""
