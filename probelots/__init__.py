"""Probelots: probes of lots, least plans, and noisy answers."""
