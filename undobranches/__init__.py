"""The undo tree of a text editor: the complete history of one text."""
