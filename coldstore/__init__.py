"""A cold store, whole."""
