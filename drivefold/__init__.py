"""Drivefold: programs that are run before their inputs are known."""
