"""Surehedge: contracts that can always be kept."""
