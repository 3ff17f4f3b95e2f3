"""Warmswitch: a thermostat with two thresholds."""
