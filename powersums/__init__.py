"""Bernoulli's numbers, told exactly."""
