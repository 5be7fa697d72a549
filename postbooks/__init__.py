"""Postbooks: letters among offices, and a cut through all their books."""
