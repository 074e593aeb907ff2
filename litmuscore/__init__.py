"""Litmuscore: out-of-order multicore machines with an exact memory model."""
