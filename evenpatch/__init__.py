"""Evenpatch: protocols in the open, upgraded amid sessions."""
