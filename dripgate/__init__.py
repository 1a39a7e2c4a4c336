"""Dripgate: calls let through at the cost of drops."""
