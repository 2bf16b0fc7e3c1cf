"""Seenposts: posts that can be seen and posts that are hidden."""
