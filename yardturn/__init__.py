"""Yardturn: jobs on a boat put into turns."""
