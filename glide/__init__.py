"""Glide: bodies that glide over a floor and halt where they would overlap."""
