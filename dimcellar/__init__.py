"""Dimcellar: bottles laid down and drunk in their years."""
