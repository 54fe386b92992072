"""Pagesatonce: texts that include one another, published at once."""
