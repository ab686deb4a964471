"""Slotfitter: rows cut to those that stand."""
