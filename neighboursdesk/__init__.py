"""Weighed with neighbours: a picture of whole numbers, and the calls that change it."""
