"""Allbrought: robots on a floor, led by letters, that never meet and bring everything."""
