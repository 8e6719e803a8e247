"""Told without giving away: see leftopen.office."""
