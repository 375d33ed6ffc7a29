"""Replicated trees with log compaction."""
