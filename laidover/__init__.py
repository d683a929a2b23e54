"""Laidover: heaps of points laid over one another, by exact shares."""
