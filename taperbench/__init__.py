"""Tapered numbers: patterns of 8, 16, 32 or 64 bits, and what is reckoned with them."""
