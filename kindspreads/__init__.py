"""Sums and products that spread over one another only in part, by kinds."""
