"""Needleroll: strips that are wound up and pricked through all their turns."""
