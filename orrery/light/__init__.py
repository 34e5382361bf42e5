"""Light and shadow, and batteries."""
