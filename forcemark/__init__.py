"""Forcemark: marks that force."""
