"""Tacet: machines that stop, and machines that never do."""
