"""Lateknow: deciding before one knows."""
