"""Reflected mixed-radix Gray code; the functions stand in stepdigits.digits."""
