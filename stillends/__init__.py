"""Stillends: writing token by token within a grammar, and always ending in time."""
