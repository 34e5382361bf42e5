"""Plans: of contacts, of networks of them, and of burns that avoid others."""
