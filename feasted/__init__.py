"""Feasted: who feasted how often while the roads were opened."""
