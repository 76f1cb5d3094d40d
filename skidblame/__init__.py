"""Skidblame: samples of a running program that point too far."""
