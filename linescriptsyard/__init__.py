"""Scripts that edit texts line by line: found from examples."""
