"""Tintties: ties tinted so that none that meet are alike."""
