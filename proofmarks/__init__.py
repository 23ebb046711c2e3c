"""Proofs of one text, marked by several readers."""
