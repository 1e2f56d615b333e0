"""A memory of translations."""
