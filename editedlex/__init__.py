"""edlex: the tokens of a text that is being edited."""
