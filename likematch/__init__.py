"""Likematch: patterns found in terms that come to be alike."""
