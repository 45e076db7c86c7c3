"""Bernoulli's numbers, sums of powers and zigzags, told exactly."""
