"""Sides bought whole, cut into goods that keep some days, for orders day by day."""
