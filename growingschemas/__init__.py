"""Schemas that grow: whether newer ones may read older rows, and how."""
