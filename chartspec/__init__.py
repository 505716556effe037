"""Exact charts with patches, labels that never overlap, reading back and comparison."""
