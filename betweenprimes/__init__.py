"""Counting that tells whether one prime is what a square leaves by another one."""
