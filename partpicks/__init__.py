"""Partpicks: hits picked on each machine, sent, and picked once more."""
