"""Sparse tables of derivatives."""
