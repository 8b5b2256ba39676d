"""Histories of texts: versions and branches, merged three ways."""
