"""Otherhand: left and right, or which bodies are their own mirror image."""
