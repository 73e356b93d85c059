"""Twosetsums: sums of two sets round a ring."""
