"""Terms of functions alone: read from text, worked out step by step, written again."""
