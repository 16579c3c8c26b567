"""Formkeeper: a registry of forms of data."""
