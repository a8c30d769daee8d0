"""Rowbetween: what two hands say of unknown numbers, and what lies between."""
