"""Everyworth: answers that carry how they came, for every way of counting."""
