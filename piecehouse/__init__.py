"""A text in a tree of pieces: every version of it is kept, and hardly anything is copied."""
