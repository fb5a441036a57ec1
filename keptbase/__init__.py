"""Keptbase: transactions and rules by footprints, layers and looks."""
