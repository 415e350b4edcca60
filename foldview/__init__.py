"""What is shown of a text whose lines are long, many and partly folded away."""
