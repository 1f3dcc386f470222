"""Packages' versions, chosen by what each asks."""
