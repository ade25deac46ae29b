"""Keyswap: houses swapped among their holders, in rings."""
