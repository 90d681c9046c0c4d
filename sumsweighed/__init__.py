"""Sums compared: what is told of sums of things, and the whole numbers that agree with it."""
