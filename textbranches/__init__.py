"""Histories of texts: versions and branches."""
