"""What sentences can tell apart: two structures, eight slots for sentences, and the game between them."""
