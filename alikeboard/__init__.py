"""Alikeboard: terms told alike, unlike, at most and above, and what follows."""
