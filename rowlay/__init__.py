"""Rowlay: webs laid in a row."""
