"""Tidehall: datums. A book of marks and of what stands how much over what."""
