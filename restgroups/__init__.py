"""Groups nobody leaves: who would rather go where, and which sets of people would leave."""
