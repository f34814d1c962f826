"""Programs of machine tools, read line by line, become moves."""
