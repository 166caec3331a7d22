"""Heldtones: songs whose tones are held over."""
