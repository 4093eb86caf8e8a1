"""Wrecktold: what the memory of a recorder still tells."""
