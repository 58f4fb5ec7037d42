"""Blindkeys: keys pressed again and again by a hand that never looks."""
