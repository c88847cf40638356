"""Shadowrow: sets of whole numbers, and how many of each size a family can have."""
