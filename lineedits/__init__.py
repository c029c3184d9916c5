"""Scripts that edit texts line by line: a text and its history."""
