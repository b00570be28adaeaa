"""Weightrooms: boxes within boxes by weights, in whole numbers."""
