"""Drawingoffice: releasing drawings that are sure for all stores, histories and measures."""
