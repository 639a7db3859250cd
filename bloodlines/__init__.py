"""Bloodlines: families, kinship, and what comes down in them."""
