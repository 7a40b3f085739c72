"""Hushwork: two reckon together and neither shows."""
