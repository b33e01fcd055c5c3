"""Groups nobody leaves: who would rather go where, what is at rest, what holds, and what is best for all."""
