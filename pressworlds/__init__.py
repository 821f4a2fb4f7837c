"""Pressworlds: lots of changes in endless worlds."""
