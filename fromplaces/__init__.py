"""Fromplaces: what is made of sums of powers of one time."""
