"""Proofs without an order: see linkgrounds.proofs."""
