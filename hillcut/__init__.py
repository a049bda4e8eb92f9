"""Hillcut: hills over straight ground, and rings round points."""
