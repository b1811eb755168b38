"""Trussel: in which order coins were struck, by the wear of their dies."""
