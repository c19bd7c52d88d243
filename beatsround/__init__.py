"""Who stands where arguments beat one another."""
