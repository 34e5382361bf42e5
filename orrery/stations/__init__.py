"""Sites, which turn with the body, and the passes of crafts over them."""
