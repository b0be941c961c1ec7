"""Sayings about sooner and later, and what follows."""
