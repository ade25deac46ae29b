"""The tests of keyswap."""
