"""Rings between a machine and a card."""
