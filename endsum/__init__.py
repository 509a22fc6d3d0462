"""Endsum: drawings of joined ends, counted with their turns."""
