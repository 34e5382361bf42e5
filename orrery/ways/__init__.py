"""States, their parts and steps, journeys and courses."""
