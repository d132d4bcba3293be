"""Matchboards: scorers read from their boards."""
