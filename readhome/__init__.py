"""Readhome: messages in several tongues that can be read back."""
