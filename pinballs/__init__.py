"""A pinball table's balls: which devices hold them, and how many are at large."""
