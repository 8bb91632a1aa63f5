"""A job that reads an input and writes each new sum to one of two logs, each once at the end."""
