"""A weightlifting contest: who is called, with what weight, and when it is over."""
