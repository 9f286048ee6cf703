"""Heardsince: what people heard from one another, told back."""
