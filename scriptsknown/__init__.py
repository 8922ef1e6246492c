"""Scripts that edit texts line by line: understood for all texts."""
