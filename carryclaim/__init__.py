"""Carryclaim: claims about programs that are carried across edits."""
