"""Matches of colors in bands of light, and the solid of surface colors."""
