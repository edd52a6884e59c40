"""Foldercode: expressions reckoned ahead."""
