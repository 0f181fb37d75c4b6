"""Numbers of a field that a root of a polynomial makes: rootfield.field.answers."""
