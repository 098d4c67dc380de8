"""Fewsumlots: sets whose sums are few."""
