"""A rover that always comes home, whole."""
