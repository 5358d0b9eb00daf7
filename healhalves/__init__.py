"""Healhalves: words of halves upon halves, and signs that a road wipes out."""
