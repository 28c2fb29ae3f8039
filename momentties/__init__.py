"""Moments tied by spans, some of which only fall out."""
