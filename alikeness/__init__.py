"""How alike two texts are: alikeness.desk has the one function to call."""
