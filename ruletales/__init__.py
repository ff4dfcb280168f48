"""A tale told in rules: ruletales.tale.answers is the function to call."""
