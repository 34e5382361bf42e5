"""The pull of the body, the pushes of burns, and motions."""
