"""Bernoulli's numbers and sums of powers, told exactly."""
