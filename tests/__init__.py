"""The tests of slotfitter."""
