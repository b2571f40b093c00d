"""Arrows that keep it away: in which orders things may have come, and what an arrow forbids."""
