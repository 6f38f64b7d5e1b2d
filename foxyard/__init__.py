"""Foxyard: a fox and a hen over yards, worked out backwards."""
