"""Waitbolts: locks whose bolts wait on bolts."""
