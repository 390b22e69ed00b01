"""Orders given at once: what can be known, step by step."""
