"""Marks that tell distances."""
